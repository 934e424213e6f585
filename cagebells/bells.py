"""The bells: codes rung at the levels, repeated at the top, and what the engine is armed for."""

from cagebells.errors import BadCodes, DeadBell, NoChange, NoCode, NotArmed, NothingRung
from cagebells.known import check_level
from cagebells.loads import KINDS

FEWEST_STROKES = 1
MOST_STROKES = 9


def are_strokes(number):
    return number >= FEWEST_STROKES and number <= MOST_STROKES


def check_codes(codes, many):
    if len(codes) != many:
        raise BadCodes("each level has its two codes")
    for men, coal in codes:
        if not are_strokes(men) or not are_strokes(coal):
            raise BadCodes("strokes are 1 to 9")
        if men == coal:
            raise BadCodes("the two codes of a level differ")


class Bells:
    def __init__(self, codes):
        self.codes = list(codes)
        self.failed = [False for code in codes]
        self.state = ("not rung", None, None, None)

    def ring(self, level, strokes):
        check_level(level, len(self.codes))
        if self.failed[level]:
            raise DeadBell("the bell of the level has failed")
        if strokes not in self.codes[level]:
            raise NoCode("the level has no such code")
        self.state = ("not repeated", level, strokes, None)

    def repeat(self, strokes):
        if self.state[0] != "not repeated":
            raise NothingRung("no code waits to be repeated")
        if not are_strokes(strokes):
            raise NoCode("strokes are 1 to 9")
        level = self.state[1]
        rung = self.state[2]
        alike = strokes == rung
        self.state = ("armed" if alike else "repeated otherwise", level, rung, strokes)
        return (alike, rung, strokes)

    def engine(self):
        return self.state

    def fail(self, level):
        check_level(level, len(self.codes))
        if self.failed[level]:
            raise NoChange("the bell of the level has failed already")
        self.failed[level] = True

    def dead(self):
        return [level for level, failed in enumerate(self.failed) if failed]

    def use(self, level, kind):
        check_level(level, len(self.codes))
        # Whether the bell has failed since is not asked: what was rung ahead of that still counts.
        code = self.codes[level][KINDS.index(kind)]
        if self.state != ("armed", level, code, code):
            raise NotArmed("the engine is not armed by the code of that level and kind")
        self.state = ("used up", level, code, code)

    def twin(self):
        other = Bells(self.codes)
        other.failed = list(self.failed)
        other.state = self.state
        return other
