"""The works: the deeds of the shaft, each refused or written into the book, and what can be asked of them."""

from cagebells.bells import Bells, check_codes
from cagebells.book import Book, Standing
from cagebells.drum import CAGES, check_depths, gates_by, level_at, other_place, wound_place
from cagebells.errors import BadRow, CageEmpty, CageTaken, GateOpen, GateShut, NoChange, NotThere
from cagebells.known import check_level, check_load
from cagebells.loads import Yard, check_loads
from cagebells.plan import MOST_PLANNED, fewest_table, fewest_winds
from cagebells.speeds import check_speeds, wind_ticks

MOST_DEEDS = 300


def with_numbers(step, row):
    if step[0] == "wind":
        return step
    return (step[0], row[step[1]], step[2])


class Works:
    def __init__(self, depths, codes, slow, fast, loads):
        check_depths(depths)
        check_codes(codes, len(depths))
        check_speeds(slow, fast)
        check_loads(loads, len(depths))
        self.depths = list(depths)
        self.slow = slow
        self.fast = fast
        self.goals = [goal for kind, level, goal in loads]
        shut = [False for depth in depths]
        first = Standing(depths[0], shut, Bells(codes), Yard(loads, len(depths)))
        self.log = Book(first, MOST_DEEDS)

    # Each deed is done on a twin of how it stands now. Only writing it into the book makes it so: what is
    # refused, by a full book too, has changed nothing.

    def ring(self, level, strokes):
        standing = self.log.latest().twin()
        standing.bells.ring(level, strokes)
        return self.write(("ring", level, strokes), 1, standing)

    def repeat(self, strokes):
        standing = self.log.latest().twin()
        answer = standing.bells.repeat(strokes)
        self.write(("repeat", strokes), 1, standing)
        return answer

    def fail(self, level):
        standing = self.log.latest().twin()
        standing.bells.fail(level)
        return self.write(("fail", level), 1, standing)

    def open_gate(self, level):
        return self.turn_gate("open", level, True)

    def shut_gate(self, level):
        return self.turn_gate("shut", level, False)

    def turn_gate(self, word, level, wanted):
        standing = self.log.latest().twin()
        check_level(level, len(self.depths))
        if standing.opened[level] == wanted:
            raise NoChange("the gate stands like that already")
        standing.opened[level] = wanted
        return self.write((word, level), 1, standing)

    def load(self, number, cage):
        standing = self.log.latest().twin()
        check_load(number, len(self.goals))
        level = self.level_of(cage)
        if level is None or standing.yard.spots()[number] != level:
            raise NotThere("the load does not wait at a level at which the cage is")
        standing.yard.into(number, cage)
        self.refuse_shut_gate(level)
        return self.write(("load", number, cage), 1, standing)

    def unload(self, cage):
        standing = self.log.latest().twin()
        if standing.yard.in_cage(cage) is None:
            raise CageEmpty("the cage holds no load")
        level = self.level_of(cage)
        if level is None:
            raise NotThere("the cage is at no level")
        self.refuse_shut_gate(level)
        standing.yard.out(cage, level)
        return self.write(("unload", cage), 1, standing)

    def wind(self, cage, level, kind):
        standing = self.log.latest().twin()
        check_level(level, len(self.depths))
        for gate in gates_by(self.depths, standing.place):
            if standing.opened[gate]:
                raise GateOpen("a gate is open at which a cage stands")
        standing.bells.use(level, kind)
        end = wound_place(self.depths, cage, level)
        ticks = wind_ticks(abs(end - standing.place), self.speed_with(standing))
        standing.place = end
        return self.write(("wind", cage, level, kind), ticks, standing)

    def take_back(self):
        return self.log.strike()

    def write(self, deed, ticks, standing):
        self.log.write(deed, ticks, self.speed_with(standing), standing)
        return self.now()

    def speed_with(self, standing):
        return self.slow if standing.yard.men_aboard() else self.fast

    def level_of(self, cage):
        return level_at(self.depths, self.cages()[cage])

    def refuse_shut_gate(self, level):
        if not self.log.latest().opened[level]:
            raise GateShut("the gate is shut where the cage is")

    def now(self):
        return self.log.now()

    def book(self):
        return self.log.told()

    def rides(self):
        return self.log.rides()

    def engine(self):
        return self.log.latest().bells.engine()

    def dead(self):
        return self.log.latest().bells.dead()

    def gates(self):
        return list(self.log.latest().opened)

    def cages(self):
        return self.both_places(self.log.latest().place)

    def cages_at(self, tick):
        return self.both_places(self.log.place_at(tick))

    def both_places(self, place):
        return (place, other_place(self.depths, place))

    def spots(self):
        return self.log.latest().yard.spots()

    def spots_at(self, tick):
        return self.log.spots_at(tick)

    def in_cage(self, cage):
        return self.log.latest().yard.in_cage(cage)

    def at_level(self, level):
        return self.log.latest().yard.at_level(level)

    def fewest(self, row):
        self.check_row(row)
        spots = self.spots()
        stand = (self.log.latest().place,) + tuple([spots[number] for number in row])
        found = fewest_winds(self.depths, self.dead(), stand, self.goals_of(row))
        if found is None:
            return None
        return (found[0], [with_numbers(step, row) for step in found[1]])

    def table(self, row):
        self.check_row(row)
        return fewest_table(self.depths, self.dead(), self.goals_of(row))

    def goals_of(self, row):
        return [self.goals[number] for number in row]

    def check_row(self, row):
        for number in row:
            check_load(number, len(self.goals))
        if len(row) > MOST_PLANNED or len(set(row)) < len(row):
            raise BadRow("a row has at most 3 loads, each once")
        for cage in CAGES:
            aboard = self.in_cage(cage)
            if aboard is not None and aboard not in row:
                raise CageTaken("a cage holds a load that is not in the row")
