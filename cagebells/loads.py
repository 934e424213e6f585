"""The loads: where each of them waits, or in which cage it is."""

from cagebells.errors import BadLoads, CageEmpty, CageTaken, NotThere
from cagebells.known import check_level, check_load, is_known

KINDS = ("men", "coal")
CAGE_SPOTS = (10, 11)
MOST_LOADS = 30


def check_loads(loads, many):
    if len(loads) > MOST_LOADS:
        raise BadLoads("there are at most 30 loads")
    for kind, level, goal in loads:
        if not is_known(level, many) or not is_known(goal, many):
            raise BadLoads("a load's level and goal are levels of the shaft")


class Yard:
    def __init__(self, loads, many):
        self.kinds = [kind for kind, level, goal in loads]
        self.where = [level for kind, level, goal in loads]
        self.many = many

    def into(self, number, cage):
        check_load(number, len(self.where))
        if self.where[number] in CAGE_SPOTS:
            raise NotThere("the load is in a cage already")
        if self.in_cage(cage) is not None:
            raise CageTaken("the cage holds a load")
        self.where[number] = CAGE_SPOTS[cage]

    def out(self, cage, level):
        check_level(level, self.many)
        number = self.in_cage(cage)
        if number is None:
            raise CageEmpty("the cage holds no load")
        self.where[number] = level

    def spots(self):
        return list(self.where)

    def in_cage(self, cage):
        for number, spot in enumerate(self.where):
            if spot == CAGE_SPOTS[cage]:
                return number
        return None

    def at_level(self, level):
        # Asked first, else the number of a cage's spot would be taken for a level.
        check_level(level, self.many)
        return [number for number, spot in enumerate(self.where) if spot == level]

    def men_aboard(self):
        for kind, spot in zip(self.kinds, self.where):
            if kind == "men" and spot in CAGE_SPOTS:
                return True
        return False

    def twin(self):
        other = Yard([], self.many)
        other.kinds = list(self.kinds)
        other.where = list(self.where)
        return other
