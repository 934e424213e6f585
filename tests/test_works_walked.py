"""Rows of deeds by chance, held against a plain walk over all deeds that were done."""

import random
import unittest

from cagebells.errors import (
    BookFull, CageEmpty, CageError, CageTaken, DeadBell, GateOpen, GateShut, NoChange, NoCode, NotArmed,
    NothingDone, NothingRung, NotThere, UnknownLevel, UnknownLoad,
)
from cagebells.works import Works

SHAFTS = (
    ([0, 10, 30], 3, 7), ([0, 10, 20], 1, 9), ([4, 9], 2, 2), ([1, 3, 7, 8, 12, 20], 1, 4), ([0, 11, 22, 33], 5, 50),
)
CODES = [(1, 2), (2, 1), (1, 9), (1, 2), (5, 6), (9, 8)]
LOADS = [("men", 0, 1), ("coal", 1, 0), ("coal", 0, 1), ("men", 1, 1), ("coal", 1, 0)]
METHODS = {"open": "open_gate", "shut": "shut_gate"}


class Walk:
    """How all stands behind some deeds, each of them known to be done."""

    def __init__(self, depths, slow, fast):
        self.depths, self.slow, self.fast = depths, slow, fast
        self.whole = depths[-1]
        self.place = depths[0]
        self.spots = [level for kind, level, goal in LOADS]
        self.open = set()
        self.dead = set()
        self.engine = ("not rung", None, None, None)
        self.book, self.rides = [], []
        self.cages_at = [(self.place, self.whole - self.place)]
        self.spots_at = [list(self.spots)]

    def level_of(self, cage):
        place = self.place if cage == 0 else self.whole - self.place
        return self.depths.index(place) if place in self.depths else None

    def due(self, deed):
        word = deed[0]
        if word == "repeat":
            if self.engine[0] != "not repeated":
                return NothingRung
            return None if deed[1] in range(1, 10) else NoCode
        if word == "unload":
            if 10 + deed[1] not in self.spots:
                return CageEmpty
            return self.gate_due(self.level_of(deed[1]))
        if word == "load":
            return self.load_due(deed[1], deed[2])
        level = deed[2] if word == "wind" else deed[1]
        if level not in range(len(self.depths)):
            return UnknownLevel
        if word == "wind":
            if any(self.level_of(cage) in self.open for cage in (0, 1)):
                return GateOpen
            code = CODES[level][deed[3] == "coal"]
            return None if self.engine == ("armed", level, code, code) else NotArmed
        if word == "ring":
            if level in self.dead:
                return DeadBell
            return None if deed[2] in CODES[level] else NoCode
        same = {"open": level in self.open, "shut": level not in self.open, "fail": level in self.dead}
        return NoChange if same[word] else None

    def load_due(self, number, cage):
        if number not in range(len(LOADS)):
            return UnknownLoad
        if self.spots[number] != self.level_of(cage):
            return NotThere
        if 10 + cage in self.spots:
            return CageTaken
        return self.gate_due(self.level_of(cage))

    def gate_due(self, level):
        if level is None:
            return NotThere
        return None if level in self.open else GateShut

    def do(self, deed):
        began = len(self.cages_at) - 1
        word = deed[0]
        if word == "wind":
            self.wind(deed[1], deed[2])
        else:
            self.cages_at.append(self.cages_at[-1])
            self.spots_at.append(list(self.spots))
        if word == "open":
            self.open.add(deed[1])
        elif word == "shut":
            self.open.remove(deed[1])
        elif word == "fail":
            self.dead.add(deed[1])
        elif word == "load":
            self.spots[deed[1]] = 10 + deed[2]
        elif word == "unload":
            self.spots[self.spots.index(10 + deed[1])] = self.level_of(deed[1])
        elif word == "ring":
            self.engine = ("not repeated", deed[1], deed[2], None)
        elif word == "repeat":
            alike = self.engine[2] == deed[1]
            self.engine = ("armed" if alike else "repeated otherwise",) + self.engine[1:3] + (deed[1],)
        self.spots_at[-1] = list(self.spots)
        ended = len(self.cages_at) - 1
        self.book.append((began, ended, deed))
        if word == "wind":
            self.rides += [(self.spots.index(10 + cage), cage, began, ended)
                           for cage in (0, 1) if 10 + cage in self.spots]

    def wind(self, cage, level):
        end = self.depths[level] if cage == 0 else self.whole - self.depths[level]
        men = any(kind == "men" and spot > 9 for (kind, level, goal), spot in zip(LOADS, self.spots))
        speed = self.slow if men else self.fast
        while self.place != end:
            gone = min(speed, abs(end - self.place))
            self.place += gone if end > self.place else -gone
            self.cages_at.append((self.place, self.whole - self.place))
            self.spots_at.append(list(self.spots))
        self.engine = ("used up",) + self.engine[1:]


class WalkedTest(unittest.TestCase):
    failing = 0.02

    def walk_over(self, shaft, deeds):
        walk = Walk(*shaft)
        for deed in deeds:
            walk.do(deed)
        return walk

    def held(self, works, walk):
        now = len(walk.cages_at) - 1
        self.assertEqual(works.now(), now)
        self.assertEqual(works.book(), walk.book)
        self.assertEqual(works.engine(), walk.engine)
        self.assertEqual(works.dead(), sorted(walk.dead))
        self.assertEqual(works.gates(), [level in walk.open for level in range(len(walk.depths))])
        self.assertEqual(works.cages(), (walk.place, walk.whole - walk.place))
        self.assertEqual(works.spots(), walk.spots)
        for cage in (0, 1):
            aboard = walk.spots.index(10 + cage) if 10 + cage in walk.spots else None
            self.assertEqual(works.in_cage(cage), aboard)
        for level in range(len(walk.depths)):
            self.assertEqual(works.at_level(level), [at for at, spot in enumerate(walk.spots) if spot == level])
        self.assertEqual(works.rides(), walk.rides)

    def held_at_every_tick(self, works, walk):
        ticks = range(len(walk.cages_at))
        self.assertEqual([works.cages_at(tick) for tick in ticks], walk.cages_at)
        self.assertEqual([works.spots_at(tick) for tick in ticks], walk.spots_at)

    def likely_deed(self, chance, walk):
        """Mostly what can be done, so that the rows go far."""
        level = chance.randrange(len(walk.depths))
        cage = chance.randrange(2)
        if chance.random() < 0.15:
            level = chance.choice((-1, len(walk.depths), 10 ** 30))
        word, armed, rung, repeated = walk.engine
        if word == "not repeated" and chance.random() < 0.6:
            return ("repeat", chance.choice((rung, rung, rung, 1, 0, 10)))
        if word == "armed" and chance.random() < 0.6:
            kind = "men" if CODES[armed][0] == rung else "coal"
            return ("wind", cage, chance.choice((armed, armed, armed, level)), chance.choice((kind, kind, "men")))
        strokes = chance.choice(CODES[level]) if level in range(len(walk.depths)) else 1
        if chance.random() < self.failing:
            return ("fail", level)
        return chance.choice((
            ("ring", level, strokes), ("ring", level, strokes), ("ring", level, chance.randrange(11)),
            ("open", level), ("shut", level), ("shut", level), ("load", chance.randrange(-1, 6), cage),
            ("load", chance.randrange(5), cage), ("unload", cage), ("repeat", chance.randrange(11)),
            ("wind", cage, level, "coal"),
        ))

    def try_deed(self, works, walk, deed):
        due = walk.due(deed)
        if due is None and len(walk.book) == 300:
            due = BookFull
        try:
            answer = getattr(works, METHODS.get(deed[0], deed[0]))(*deed[1:])
        except CageError as refusal:
            self.assertIs(type(refusal), due, deed)
            return
        self.assertIsNone(due, deed)
        walk.do(deed)
        if deed[0] == "repeat":
            self.assertEqual(answer, (walk.engine[2] == deed[1], walk.engine[2], deed[1]))
        else:
            self.assertEqual(answer, len(walk.cages_at) - 1)

    def row_of_deeds(self, chance, shaft, tries, back):
        works = Works(shaft[0], CODES[:len(shaft[0])], shaft[1], shaft[2], LOADS)
        walk = Walk(*shaft)
        for many in range(tries):
            if chance.random() < back:
                deeds = [deed for began, ended, deed in walk.book]
                if not deeds:
                    with self.assertRaises(NothingDone):
                        works.take_back()
                else:
                    self.assertEqual(works.take_back(), deeds[-1])
                    walk = self.walk_over(shaft, deeds[:-1])
            else:
                self.try_deed(works, walk, self.likely_deed(chance, walk))
            self.held(works, walk)
        self.held_at_every_tick(works, walk)
        return works, walk

    def test_deeds_and_taking_back(self):
        chance = random.Random(11)
        for shaft in SHAFTS:
            for row in range(6):
                self.row_of_deeds(chance, shaft, 200, 0.1)

    def test_to_a_full_book_and_back_again(self):
        chance = random.Random(12)
        # With all bells failed no row would go on to a full book.
        self.failing = 0.001
        for shaft in SHAFTS[:3]:
            works, walk = self.row_of_deeds(chance, shaft, 1500, 0)
            self.assertEqual(len(works.book()), 300)
            self.assertTrue(walk.rides)
            deeds = [deed for began, ended, deed in walk.book]
            for left in range(299, -1, -1):
                self.assertEqual(works.take_back(), deeds[left])
                if left % 30 == 0:
                    back = self.walk_over(shaft, deeds[:left])
                    self.held(works, back)
                    self.held_at_every_tick(works, back)


if __name__ == "__main__":
    unittest.main()
