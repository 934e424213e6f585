import unittest

from cagebells.errors import (
    BadCodes, BadDepths, BadLoads, BadSpeeds, BookFull, CageEmpty, CageTaken, DeadBell, GateOpen, GateShut, NoChange,
    NoCode, NotArmed, NothingDone, NothingRung, NotThere, NoTick, UnknownLevel, UnknownLoad,
)
from cagebells.works import MOST_DEEDS, Works

GREAT = 10 ** 30
DEPTHS = [0, 10, 30]
CODES = [(1, 2), (3, 4), (5, 6)]
LOADS = [("men", 0, 2), ("coal", 2, 0), ("coal", 0, 0), ("men", 1, 1), ("coal", 1, 2)]
UNKNOWN_LEVELS = (-1, -3, 3, 4, 10, 11, GREAT, -GREAT)
UNKNOWN_LOADS = (-1, -5, -6, 5, 6, GREAT, -GREAT)
NOT_RUNG = ("not rung", None, None, None)


def seen(works):
    """All that can be asked, but the plans."""
    ticks = range(works.now() + 1)
    return {
        "now": works.now(), "book": works.book(), "rides": works.rides(), "engine": works.engine(),
        "dead": works.dead(), "gates": works.gates(), "cages": works.cages(), "spots": works.spots(),
        "in": [works.in_cage(cage) for cage in (0, 1)],
        "at": [works.at_level(level) for level in range(len(works.gates()))],
        "cages at": [works.cages_at(tick) for tick in ticks], "spots at": [works.spots_at(tick) for tick in ticks],
    }


class WorksTest(unittest.TestCase):
    depths = DEPTHS
    codes = CODES
    speeds = (2, 8)
    loads = LOADS

    def setUp(self):
        self.works = Works(self.depths, self.codes, self.speeds[0], self.speeds[1], self.loads)

    def refused(self, error, deed, *told):
        before = seen(self.works)
        with self.assertRaises(error):
            deed(*told)
        self.assertEqual(seen(self.works), before)

    def arm(self, level, kind="coal"):
        strokes = self.codes[level][("men", "coal").index(kind)]
        self.works.ring(level, strokes)
        self.assertEqual(self.works.repeat(strokes), (True, strokes, strokes))

    def go(self, cage, level, kind="coal"):
        self.arm(level, kind)
        return self.works.wind(cage, level, kind)

    def put_in(self, number, cage):
        level = self.works.spots()[number]
        self.works.open_gate(level)
        self.works.load(number, cage)
        self.works.shut_gate(level)


class MadeTest(WorksTest):
    def test_at_first(self):
        self.assertEqual(seen(self.works), {
            "now": 0, "book": [], "rides": [], "engine": NOT_RUNG, "dead": [], "gates": [False, False, False],
            "cages": (0, 30), "spots": [0, 2, 0, 1, 1], "in": [None, None], "at": [[0, 2], [3, 4], [1]],
            "cages at": [(0, 30)], "spots at": [[0, 2, 0, 1, 1]],
        })

    def test_cage_0_is_at_level_0_where_that_is_not_at_0(self):
        works = Works([4, 10, 30], CODES, 1, 1, [])
        self.assertEqual(works.cages(), (4, 26))
        self.assertEqual(works.cages_at(0), (4, 26))

    def test_each_refusal_alone(self):
        for depths in ([], [0], [0, 10, 10], [-1, 5, 6], [0, 1, 501], [0, 1, 2, 3, 4, 5, 6]):
            with self.assertRaises(BadDepths):
                Works(depths, [(1, 2)] * len(depths), 2, 8, [])
        for codes in (CODES[:2], CODES + [(1, 2)], [], [(1, 2), (3, 3), (5, 6)], [(0, 2), (3, 4), (5, 6)],
                      [(1, 2), (3, 4), (5, 10)]):
            with self.assertRaises(BadCodes):
                Works(DEPTHS, codes, 2, 8, LOADS)
        for slow, fast in ((0, 8), (9, 8), (2, 501), (-1, -1)):
            with self.assertRaises(BadSpeeds):
                Works(DEPTHS, CODES, slow, fast, LOADS)
        for loads in ([("men", 0, 3)], [("coal", -1, 0)], [("men", 0, 0)] * 31):
            with self.assertRaises(BadLoads):
                Works(DEPTHS, CODES, 2, 8, loads)

    def test_the_first_of_several_refusals(self):
        bad = ([0, 10, 10], [(1, 1)] * 3, 0, 0, [("men", 9, 9)])
        good = (DEPTHS, CODES, 2, 8, LOADS)
        for depths in (0, 1):
            for codes in (0, 1):
                for speeds in (0, 1):
                    for loads in (0, 1):
                        due = [error for wrong, error in ((depths, BadDepths), (codes, BadCodes),
                                                          (speeds, BadSpeeds), (loads, BadLoads)) if wrong]
                        told = [(good, bad)[wrong][at] for at, wrong in
                                enumerate((depths, codes, speeds, speeds, loads))]
                        if due:
                            with self.assertRaises(due[0]):
                                Works(*told)
                        else:
                            self.assertEqual(Works(*told).now(), 0)

    def test_the_greatest_and_the_smallest(self):
        works = Works([0, 1], [(1, 9), (9, 1)], 1, 500, [])
        self.assertEqual(works.cages(), (0, 1))
        works = Works([0, 100, 200, 300, 400, 500], [(1, 9)] * 6, 500, 500, [("men", 5, 0)] * 30)
        self.assertEqual(works.at_level(5), list(range(30)))


class AnswersTest(WorksTest):
    def test_each_deed_and_the_book(self):
        self.assertEqual(self.works.open_gate(0), 1)
        self.assertEqual(self.works.load(2, 0), 2)
        self.assertEqual(self.works.shut_gate(0), 3)
        self.assertEqual(self.works.ring(1, 4), 4)
        self.assertEqual(self.works.repeat(4), (True, 4, 4))
        self.assertEqual(self.works.now(), 5)
        self.assertEqual(self.works.wind(0, 1, "coal"), 7)
        self.assertEqual(self.works.open_gate(1), 8)
        self.assertEqual(self.works.unload(0), 9)
        self.assertEqual(self.works.fail(2), 10)
        self.assertEqual(self.works.now(), 10)
        self.assertEqual(self.works.book(), [
            (0, 1, ("open", 0)), (1, 2, ("load", 2, 0)), (2, 3, ("shut", 0)), (3, 4, ("ring", 1, 4)),
            (4, 5, ("repeat", 4)), (5, 7, ("wind", 0, 1, "coal")), (7, 8, ("open", 1)), (8, 9, ("unload", 0)),
            (9, 10, ("fail", 2)),
        ])
        self.assertEqual(self.works.cages(), (10, 20))
        self.assertEqual(self.works.spots(), [0, 2, 1, 1, 1])
        self.assertEqual(self.works.at_level(1), [2, 3, 4])
        self.assertEqual(self.works.gates(), [False, True, False])
        self.assertEqual(self.works.dead(), [2])
        self.assertEqual(self.works.engine(), ("used up", 1, 4, 4))
        self.assertEqual(self.works.rides(), [(2, 0, 5, 7)])

    def test_kinds(self):
        self.works.ring(0, 1)
        row = self.works.book()[0]
        self.assertEqual([type(self.works.book()), type(row), type(row[2])], [list, tuple, tuple])
        self.assertIs(type(self.works.gates()), list)
        self.assertTrue(all(type(gate) is bool for gate in self.works.gates()))
        self.assertIs(type(self.works.cages()), tuple)
        self.assertIs(type(self.works.cages_at(0)), tuple)
        self.assertIs(type(self.works.spots_at(0)), list)
        self.assertIs(type(self.works.rides()), list)

    def test_repeating_otherwise_is_done(self):
        self.works.ring(0, 1)
        self.assertEqual(self.works.repeat(2), (False, 1, 2))
        self.assertEqual(self.works.now(), 2)
        self.assertEqual(self.works.book(), [(0, 1, ("ring", 0, 1)), (1, 2, ("repeat", 2))])
        self.assertEqual(self.works.engine(), ("repeated otherwise", 0, 1, 2))

    def test_ring_refusals(self):
        self.works.fail(1)
        for level in UNKNOWN_LEVELS:
            self.refused(UnknownLevel, self.works.ring, level, 1)
            self.refused(UnknownLevel, self.works.ring, level, GREAT)
        for strokes in (3, 4, 1, 0, GREAT):
            self.refused(DeadBell, self.works.ring, 1, strokes)
        for strokes in (-1, 0, 3, 5, 10, GREAT):
            self.refused(NoCode, self.works.ring, 0, strokes)

    def test_repeat_refusals(self):
        for strokes in (-1, 0, 1, 9, 10, GREAT):
            self.refused(NothingRung, self.works.repeat, strokes)
        self.works.ring(0, 1)
        for strokes in (-GREAT, -1, 0, 10, GREAT):
            self.refused(NoCode, self.works.repeat, strokes)
        self.works.repeat(9)
        for strokes in (1, 9, 10):
            self.refused(NothingRung, self.works.repeat, strokes)

    def test_fail_refusals(self):
        for level in UNKNOWN_LEVELS:
            self.refused(UnknownLevel, self.works.fail, level)
        self.works.fail(2)
        self.refused(NoChange, self.works.fail, 2)
        self.works.fail(0)
        self.assertEqual(self.works.dead(), [0, 2])


class GatesTest(WorksTest):
    def test_opened_and_shut_wherever_the_cages_are(self):
        for level in range(3):
            self.works.open_gate(level)
            self.assertEqual(self.works.gates(), [gate <= level for gate in range(3)])
        for level in range(3):
            self.works.shut_gate(level)
            self.assertEqual(self.works.gates(), [gate > level for gate in range(3)])

    def test_no_change(self):
        for level in range(3):
            self.refused(NoChange, self.works.shut_gate, level)
            self.works.open_gate(level)
            self.refused(NoChange, self.works.open_gate, level)
            self.works.shut_gate(level)
            self.refused(NoChange, self.works.shut_gate, level)

    def test_unknown_levels(self):
        for turned in (False, True):
            for level in UNKNOWN_LEVELS:
                self.refused(UnknownLevel, self.works.open_gate, level)
                self.refused(UnknownLevel, self.works.shut_gate, level)
                self.refused(UnknownLevel, self.works.at_level, level)
            if not turned:
                self.works.open_gate(2)


class LoadTest(WorksTest):
    def test_load_into_either_cage(self):
        self.works.open_gate(0)
        self.works.open_gate(2)
        self.works.load(2, 0)
        self.assertEqual((self.works.in_cage(0), self.works.spots()), (2, [0, 2, 10, 1, 1]))
        self.works.load(1, 1)
        self.assertEqual((self.works.in_cage(1), self.works.spots()), (1, [0, 11, 10, 1, 1]))
        self.assertEqual([self.works.at_level(level) for level in range(3)], [[0], [3, 4], []])

    def test_unknown_load(self):
        for number in UNKNOWN_LOADS:
            for cage in (0, 1):
                self.refused(UnknownLoad, self.works.load, number, cage)

    def test_not_there(self):
        for level in range(3):
            self.works.open_gate(level)
        self.refused(NotThere, self.works.load, 0, 1)
        self.refused(NotThere, self.works.load, 1, 0)
        self.refused(NotThere, self.works.load, 3, 0)
        self.refused(NotThere, self.works.load, 3, 1)
        self.works.load(0, 0)
        self.refused(NotThere, self.works.load, 0, 0)
        self.refused(NotThere, self.works.load, 0, 1)

    def test_a_cage_at_no_level(self):
        self.go(1, 1)
        self.assertEqual(self.works.cages(), (20, 10))
        for level in range(3):
            self.works.open_gate(level)
        for number in range(5):
            self.refused(NotThere, self.works.load, number, 0)
        self.assertEqual(self.works.load(3, 1), self.works.now())

    def test_cage_taken(self):
        self.works.open_gate(0)
        self.works.load(0, 0)
        self.refused(CageTaken, self.works.load, 2, 0)

    def test_gate_shut(self):
        self.refused(GateShut, self.works.load, 0, 0)
        self.refused(GateShut, self.works.load, 1, 1)
        self.works.open_gate(0)
        self.refused(GateShut, self.works.load, 1, 1)
        self.works.load(0, 0)

    def test_the_first_of_several_refusals(self):
        self.put_in(0, 0)
        for number in UNKNOWN_LOADS:
            self.refused(UnknownLoad, self.works.load, number, 0)
        self.refused(NotThere, self.works.load, 0, 0)
        self.refused(NotThere, self.works.load, 0, 1)
        self.refused(NotThere, self.works.load, 1, 0)
        self.refused(NotThere, self.works.load, 3, 0)
        self.refused(CageTaken, self.works.load, 2, 0)
        self.works.open_gate(0)
        self.refused(CageTaken, self.works.load, 2, 0)

    def test_unload_where_the_cage_is(self):
        self.put_in(0, 0)
        self.put_in(1, 1)
        self.go(0, 2)
        self.works.open_gate(2)
        self.works.unload(0)
        self.assertEqual(self.works.spots(), [2, 11, 0, 1, 1])
        self.works.open_gate(0)
        self.works.unload(1)
        self.assertEqual(self.works.spots(), [2, 0, 0, 1, 1])

    def test_unload_an_empty_cage(self):
        for gate in (False, True):
            self.refused(CageEmpty, self.works.unload, 0)
            self.refused(CageEmpty, self.works.unload, 1)
            if not gate:
                self.works.open_gate(0)
                self.works.open_gate(2)
        self.works.load(0, 0)
        self.refused(CageEmpty, self.works.unload, 1)
        self.works.unload(0)
        self.refused(CageEmpty, self.works.unload, 0)

    def test_unload_at_no_level(self):
        self.refused(CageEmpty, self.works.unload, 0)
        self.put_in(0, 0)
        self.go(1, 1)
        self.refused(NotThere, self.works.unload, 0)
        self.refused(CageEmpty, self.works.unload, 1)
        for level in range(3):
            self.works.open_gate(level)
        self.refused(NotThere, self.works.unload, 0)

    def test_an_empty_cage_at_no_level(self):
        self.go(1, 1)
        self.refused(CageEmpty, self.works.unload, 0)

    def test_unload_behind_a_shut_gate(self):
        self.put_in(0, 0)
        self.refused(GateShut, self.works.unload, 0)
        self.works.open_gate(1)
        self.works.open_gate(2)
        self.refused(GateShut, self.works.unload, 0)
        self.works.open_gate(0)
        self.works.unload(0)


class BothAtOneLevelTest(WorksTest):
    depths = [0, 10, 20]

    def test_from_cage_to_cage(self):
        self.go(0, 1)
        self.assertEqual(self.works.cages(), (10, 10))
        self.works.open_gate(1)
        self.works.load(3, 0)
        self.works.load(4, 1)
        self.assertEqual(self.works.spots(), [0, 2, 0, 10, 11])
        self.works.unload(0)
        self.refused(CageTaken, self.works.load, 3, 1)
        self.works.unload(1)
        self.works.load(3, 1)
        self.assertEqual(self.works.spots(), [0, 2, 0, 11, 1])
        self.arm(0)
        self.refused(GateOpen, self.works.wind, 0, 0, "coal")


class WindTest(WorksTest):
    def test_either_cage_to_each_level(self):
        for cage in (0, 1):
            for level in (1, 2, 1, 0, 2, 0):
                self.go(cage, level)
                self.assertEqual(self.works.cages()[cage], DEPTHS[level])
                self.assertEqual(sum(self.works.cages()), 30)

    def test_unknown_levels(self):
        for level in UNKNOWN_LEVELS:
            self.refused(UnknownLevel, self.works.wind, 0, level, "coal")
        self.arm(2)
        self.works.open_gate(0)
        for level in UNKNOWN_LEVELS:
            self.refused(UnknownLevel, self.works.wind, 1, level, "coal")

    def test_a_gate_open_where_a_cage_stands(self):
        self.arm(1)
        self.works.open_gate(0)
        self.refused(GateOpen, self.works.wind, 0, 1, "coal")
        self.refused(GateOpen, self.works.wind, 1, 1, "coal")
        self.works.shut_gate(0)
        self.works.open_gate(2)
        self.refused(GateOpen, self.works.wind, 0, 1, "coal")
        self.refused(GateOpen, self.works.wind, 1, 1, "coal")
        self.works.shut_gate(2)
        self.works.wind(0, 1, "coal")

    def test_a_gate_open_where_it_comes_to(self):
        self.arm(1)
        self.works.open_gate(1)
        self.works.wind(0, 1, "coal")
        self.assertEqual(self.works.gates(), [False, True, False])
        self.arm(2)
        self.refused(GateOpen, self.works.wind, 0, 2, "coal")
        self.works.open_gate(0)
        self.works.open_gate(2)
        self.works.shut_gate(1)
        self.works.wind(0, 2, "coal")
        self.assertEqual(self.works.gates(), [True, False, True])

    def test_a_wind_to_where_it_is_asks_for_shut_gates_too(self):
        self.arm(0)
        self.works.open_gate(0)
        self.refused(GateOpen, self.works.wind, 0, 0, "coal")

    def test_not_armed(self):
        self.refused(NotArmed, self.works.wind, 0, 1, "coal")
        self.works.ring(1, 4)
        self.refused(NotArmed, self.works.wind, 0, 1, "coal")
        self.works.repeat(3)
        self.refused(NotArmed, self.works.wind, 0, 1, "coal")
        self.refused(NotArmed, self.works.wind, 0, 1, "men")
        self.arm(1)
        self.refused(NotArmed, self.works.wind, 0, 1, "men")
        self.refused(NotArmed, self.works.wind, 0, 2, "coal")
        self.works.wind(0, 1, "coal")
        self.refused(NotArmed, self.works.wind, 0, 1, "coal")
        self.arm(1)
        self.works.ring(1, 4)
        self.refused(NotArmed, self.works.wind, 0, 1, "coal")

    def test_the_code_does_not_name_a_cage(self):
        for cage in (0, 1):
            self.arm(1, "men")
            self.works.wind(cage, 1, "men")
            self.assertEqual(self.works.engine(), ("used up", 1, 3, 3))

    def test_the_first_of_several_refusals(self):
        self.works.open_gate(0)
        for level in UNKNOWN_LEVELS:
            self.refused(UnknownLevel, self.works.wind, 0, level, "men")
        self.refused(GateOpen, self.works.wind, 0, 1, "men")
        self.works.shut_gate(0)
        self.refused(NotArmed, self.works.wind, 0, 1, "men")

    def test_a_refused_wind_leaves_the_engine_armed(self):
        self.arm(1)
        self.works.open_gate(0)
        self.refused(GateOpen, self.works.wind, 0, 1, "coal")
        self.works.shut_gate(0)
        self.refused(NotArmed, self.works.wind, 0, 2, "coal")
        self.works.wind(0, 1, "coal")

    def test_a_bell_that_failed_once_it_was_rung(self):
        self.works.ring(1, 4)
        self.works.fail(1)
        self.works.repeat(4)
        self.works.wind(0, 1, "coal")
        self.assertEqual(self.works.cages(), (10, 20))

    def test_the_slow_and_the_fast_speed(self):
        # 30 of way: 15 ticks by 2, 4 ticks by 8.
        for kind in ("men", "coal"):
            for number, cage, lasts in ((None, 0, 4), (2, 0, 4), (0, 0, 15), (1, 1, 4)):
                with self.subTest(kind=kind, number=number, cage=cage):
                    self.setUp()
                    if number is not None:
                        self.put_in(number, cage)
                    self.arm(2, kind)
                    began = self.works.now()
                    self.assertEqual(self.works.wind(0, 2, kind), began + lasts)
                    self.assertEqual(self.works.book()[-1], (began, began + lasts, ("wind", 0, 2, kind)))

    def test_men_in_cage_1(self):
        self.go(1, 1)
        self.put_in(3, 1)
        self.arm(2)
        began = self.works.now()
        self.assertEqual(self.works.wind(1, 2, "coal"), began + 10)
        self.assertEqual(self.works.spots()[3], 11)
        self.arm(0)
        began = self.works.now()
        self.assertEqual(self.works.wind(0, 0, "coal"), began)

    def test_men_and_coal_together(self):
        self.put_in(0, 0)
        self.put_in(1, 1)
        self.arm(2)
        began = self.works.now()
        self.assertEqual(self.works.wind(0, 2, "coal"), began + 15)
        self.assertEqual(self.works.spots()[:2], [10, 11])

    def test_men_who_wait_make_no_wind_slow(self):
        began = self.works.now() + 2
        self.assertEqual(self.go(0, 1), began + 2)

    def test_a_wind_of_0_ticks(self):
        self.put_in(0, 0)
        self.arm(0)
        began = self.works.now()
        self.assertEqual(self.works.wind(0, 0, "coal"), began)
        self.assertEqual(self.works.book()[-1], (began, began, ("wind", 0, 0, "coal")))
        self.assertEqual(self.works.engine(), ("used up", 0, 2, 2))
        self.assertEqual(self.works.rides(), [(0, 0, began, began)])
        self.arm(2)
        began = self.works.now()
        self.assertEqual(self.works.wind(1, 2, "coal"), began)
        self.assertEqual(self.works.open_gate(0), began + 1)
        self.assertEqual(len(self.works.rides()), 2)


class FullBookTest(WorksTest):
    def fill(self, many):
        while len(self.works.book()) < many:
            if self.works.gates()[1]:
                self.works.shut_gate(1)
            else:
                self.works.open_gate(1)

    def test_most_deeds(self):
        self.assertEqual(MOST_DEEDS, 300)

    def test_a_further_deed(self):
        self.put_in(0, 0)
        self.works.open_gate(2)
        self.works.fail(2)
        self.works.ring(1, 4)
        self.fill(299)
        self.assertEqual(self.works.repeat(4), (True, 4, 4))
        self.assertEqual((len(self.works.book()), self.works.now()), (300, 300))
        self.refused(BookFull, self.works.ring, 0, 1)
        self.refused(BookFull, self.works.open_gate, 0)
        self.refused(BookFull, self.works.shut_gate, 2)
        self.refused(BookFull, self.works.load, 1, 1)
        self.refused(BookFull, self.works.fail, 0)
        self.refused(GateOpen, self.works.wind, 0, 1, "coal")
        self.refused(UnknownLevel, self.works.ring, 3, 1)
        self.refused(DeadBell, self.works.ring, 2, 5)
        self.refused(NoCode, self.works.ring, 0, 3)
        self.refused(NothingRung, self.works.repeat, 4)
        self.refused(NoChange, self.works.open_gate, 2)
        self.refused(NoChange, self.works.shut_gate, 0)
        self.refused(NoChange, self.works.fail, 2)
        self.refused(UnknownLoad, self.works.load, 5, 0)
        self.refused(NotThere, self.works.load, 0, 0)
        self.refused(CageTaken, self.works.load, 2, 0)
        self.refused(GateShut, self.works.unload, 0)
        self.refused(CageEmpty, self.works.unload, 1)

    def test_a_further_wind_unload_and_repeat(self):
        self.put_in(0, 0)
        self.works.ring(1, 4)
        self.fill(299)
        self.works.repeat(4)
        self.refused(BookFull, self.works.wind, 0, 1, "coal")
        self.refused(NotArmed, self.works.wind, 0, 1, "men")
        self.setUp()
        self.works.open_gate(0)
        self.works.load(0, 0)
        self.fill(299)
        self.works.ring(1, 4)
        self.refused(BookFull, self.works.unload, 0)
        self.refused(BookFull, self.works.repeat, 4)
        self.refused(BookFull, self.works.repeat, 5)
        self.refused(NoCode, self.works.repeat, 10)

    def test_the_three_hundredth_is_taken(self):
        self.fill(299)
        self.works.ring(0, 1)
        self.assertEqual(len(self.works.book()), 300)

    def test_taking_back_makes_room(self):
        self.fill(300)
        self.works.take_back()
        self.assertEqual(self.works.ring(0, 1), 300)
        self.refused(BookFull, self.works.repeat, 1)

    def test_taking_back_a_full_book(self):
        self.fill(300)
        for left in range(299, -1, -1):
            self.works.take_back()
            self.assertEqual((len(self.works.book()), self.works.now()), (left, left))
        self.assertEqual(seen(self.works), seen(Works(DEPTHS, CODES, 2, 8, LOADS)))


class TakeBackTest(WorksTest):
    def test_again_and_again(self):
        rows = (
            (self.works.fail, 2), (self.works.ring, 1, 3), (self.works.repeat, 3), (self.works.open_gate, 0),
            (self.works.load, 0, 0), (self.works.open_gate, 2), (self.works.load, 1, 1), (self.works.shut_gate, 0),
            (self.works.shut_gate, 2), (self.works.wind, 0, 1, "men"), (self.works.open_gate, 1),
            (self.works.unload, 0), (self.works.ring, 0, 1), (self.works.repeat, 9), (self.works.fail, 1),
            (self.works.shut_gate, 1), (self.works.ring, 0, 2), (self.works.repeat, 2),
            (self.works.wind, 1, 0, "coal"), (self.works.ring, 0, 2), (self.works.repeat, 2),
            (self.works.wind, 1, 0, "coal"), (self.works.fail, 0),
        )
        before = []
        for row in rows:
            before.append(seen(self.works))
            row[0](*row[1:])
        while before:
            last = self.works.book()[-1][2]
            answer = self.works.take_back()
            self.assertEqual(answer, last)
            self.assertIs(type(answer), tuple)
            self.assertEqual(seen(self.works), before.pop())
        self.assertEqual(self.works.book(), [])
        self.refused(NothingDone, self.works.take_back)
        # All of it can be done once more.
        for row in rows:
            row[0](*row[1:])
        self.assertEqual(len(self.works.book()), len(rows))

    def test_with_an_empty_book(self):
        self.refused(NothingDone, self.works.take_back)
        self.works.ring(0, 1)
        self.assertEqual(self.works.take_back(), ("ring", 0, 1))
        self.refused(NothingDone, self.works.take_back)

    def test_the_answers(self):
        self.put_in(0, 0)
        self.go(0, 2, "men")
        self.works.fail(0)
        self.works.open_gate(2)
        self.works.unload(0)
        self.assertEqual([self.works.take_back() for many in range(9)], [
            ("unload", 0), ("open", 2), ("fail", 0), ("wind", 0, 2, "men"), ("repeat", 5), ("ring", 2, 5),
            ("shut", 0), ("load", 0, 0), ("open", 0),
        ])

    def test_what_was_taken_back_can_be_used_again(self):
        self.arm(1)
        self.works.wind(0, 1, "coal")
        self.works.take_back()
        self.assertEqual(self.works.engine(), ("armed", 1, 4, 4))
        self.assertEqual(self.works.wind(1, 1, "coal"), 5)
        self.assertEqual(self.works.cages(), (20, 10))
        self.works.take_back()
        self.works.take_back()
        self.assertEqual(self.works.engine(), ("not repeated", 1, 4, None))
        self.works.take_back()
        self.assertEqual(self.works.engine(), NOT_RUNG)

    def test_what_was_rung_ahead_comes_back(self):
        self.arm(1)
        self.works.ring(2, 5)
        self.works.take_back()
        self.assertEqual(self.works.engine(), ("armed", 1, 4, 4))
        self.works.wind(0, 1, "coal")

    def test_ticks_taken_back_are_no_longer_told(self):
        self.go(0, 2)
        self.assertEqual(self.works.cages_at(6), (30, 0))
        self.works.take_back()
        self.refused(NoTick, self.works.cages_at, 3)
        self.refused(NoTick, self.works.spots_at, 6)


class HistoryTest(WorksTest):
    speeds = (3, 8)

    def test_on_the_way_of_a_wind(self):
        self.go(0, 2)
        self.assertEqual([self.works.cages_at(tick) for tick in range(7)],
                         [(0, 30), (0, 30), (0, 30), (8, 22), (16, 14), (24, 6), (30, 0)])
        self.go(1, 1)
        self.assertEqual([self.works.cages_at(tick) for tick in range(6, 11)],
                         [(30, 0), (30, 0), (30, 0), (22, 8), (20, 10)])
        self.go(1, 2)
        self.assertEqual([self.works.cages_at(tick) for tick in range(10, 16)],
                         [(20, 10), (20, 10), (20, 10), (12, 18), (4, 26), (0, 30)])
        self.assertEqual(self.works.now(), 15)
        self.assertEqual(self.works.cages(), (0, 30))

    def test_a_slow_way(self):
        self.put_in(0, 0)
        self.go(0, 1)
        self.assertEqual([self.works.cages_at(tick)[0] for tick in range(10)], [0, 0, 0, 0, 0, 0, 3, 6, 9, 10])
        self.works.open_gate(1)
        self.works.unload(0)
        self.works.shut_gate(1)
        self.go(0, 2)
        # Men who left the cage since, or come into it later, make no earlier wind faster or slower.
        self.assertEqual([self.works.cages_at(tick)[0] for tick in range(5, 18)],
                         [0, 3, 6, 9, 10, 10, 10, 10, 10, 10, 18, 26, 30])

    def test_spots_from_the_tick_on_at_which_a_deed_ended(self):
        self.works.open_gate(0)
        self.works.load(0, 0)
        self.works.unload(0)
        self.works.load(2, 0)
        first = [0, 2, 0, 1, 1]
        self.assertEqual([self.works.spots_at(tick) for tick in range(5)],
                         [first, first, [10, 2, 0, 1, 1], first, [0, 2, 10, 1, 1]])

    def test_a_load_rides_on_and_is_put_out_later(self):
        self.put_in(2, 0)
        self.go(0, 2)
        self.works.open_gate(2)
        self.works.unload(0)
        told = [self.works.spots_at(tick)[2] for tick in range(self.works.now() + 1)]
        self.assertEqual(told, [0, 0] + [10] * 9 + [2])

    def test_winds_of_0_ticks(self):
        self.go(0, 0)
        self.go(0, 0)
        self.go(0, 1)
        self.go(0, 1)
        self.assertEqual([self.works.cages_at(tick)[0] for tick in range(self.works.now() + 1)],
                         [0, 0, 0, 0, 0, 0, 0, 8, 10, 10, 10])

    def test_ticks_that_are_not_told(self):
        for now in range(4):
            self.assertEqual(self.works.now(), now)
            self.assertEqual(self.works.cages_at(now), (0, 30))
            self.assertEqual(self.works.spots_at(now), [0, 2, 0, 1, 1])
            for tick in (-1, now + 1, now + 2, GREAT, -GREAT):
                self.refused(NoTick, self.works.cages_at, tick)
                self.refused(NoTick, self.works.spots_at, tick)
            self.works.ring(0, 1)

    def test_who_rode_when(self):
        self.assertEqual(self.works.rides(), [])
        self.go(0, 0)
        self.assertEqual(self.works.rides(), [])
        self.put_in(1, 1)
        self.put_in(0, 0)
        self.assertEqual(self.works.rides(), [])
        self.go(0, 2)
        self.assertEqual(self.works.rides(), [(0, 0, 10, 20), (1, 1, 10, 20)])
        self.works.open_gate(2)
        self.works.unload(0)
        self.works.shut_gate(2)
        self.go(1, 1)
        self.assertEqual(self.works.rides(), [(0, 0, 10, 20), (1, 1, 10, 20), (1, 1, 25, 27)])
        self.go(1, 1)
        self.assertEqual(self.works.rides()[3:], [(1, 1, 29, 29)])
        self.works.open_gate(1)
        self.works.unload(1)
        self.works.shut_gate(1)
        self.go(0, 0)
        self.assertEqual(len(self.works.rides()), 4)
        self.assertTrue(all(type(ride) is tuple for ride in self.works.rides()))


class NothingSharedTest(WorksTest):
    def some_deeds(self, works):
        works.open_gate(0)
        works.load(0, 0)
        works.shut_gate(0)
        works.fail(0)
        works.ring(1, 4)
        works.repeat(4)
        works.wind(0, 1, "coal")

    def test_two_works_are_apart(self):
        depths, codes, loads = list(DEPTHS), list(CODES), list(LOADS)
        first = Works(depths, codes, 2, 8, loads)
        second = Works(depths, codes, 2, 8, loads)
        untouched = seen(second)
        self.some_deeds(first)
        self.assertEqual(seen(second), untouched)
        done = seen(first)
        second.ring(2, 5)
        second.take_back()
        self.assertEqual(seen(first), done)
        self.assertEqual((depths, codes, loads), (DEPTHS, CODES, LOADS))

    def test_changed_lists_that_were_handed_in(self):
        depths, codes, loads = list(DEPTHS), list(CODES), list(LOADS)
        works = Works(depths, codes, 2, 8, loads)
        depths[1] = 7
        depths.append(40)
        codes[1] = (8, 9)
        codes.pop()
        loads[0] = ("coal", 1, 1)
        loads.append(("men", 0, 0))
        self.some_deeds(works)
        self.some_deeds(self.works)
        self.assertEqual(seen(works), seen(self.works))
        self.assertEqual(works.fewest([0]), self.works.fewest([0]))
        self.assertEqual(works.table([0, 1]), self.works.table([0, 1]))
        with self.assertRaises(UnknownLevel):
            works.open_gate(3)
        with self.assertRaises(UnknownLoad):
            works.load(5, 0)
        with self.assertRaises(UnknownLoad):
            works.fewest([5])

    def test_changed_lists_that_were_told(self):
        self.some_deeds(self.works)
        before = seen(self.works)
        for told in (self.works.book(), self.works.rides(), self.works.dead(), self.works.gates(),
                     self.works.spots(), self.works.at_level(1), self.works.spots_at(0), self.works.spots_at(3),
                     self.works.spots_at(self.works.now())):
            told.append("more")
            told[0] = "other"
        for told in (self.works.book(), self.works.gates(), self.works.spots(), self.works.spots_at(2)):
            told.clear()
        self.assertEqual(seen(self.works), before)
        self.works.ring(1, 4)
        self.works.take_back()
        self.assertEqual(seen(self.works), before)

    def test_told_lists_stay_as_they_were_told(self):
        told = seen(self.works)
        kept = seen(self.works)
        self.some_deeds(self.works)
        self.assertEqual(told, kept)


if __name__ == "__main__":
    unittest.main()
