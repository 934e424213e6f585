import itertools
import unittest

from cagebells.errors import BadRow, CageTaken, UnknownLoad
from cagebells.plan import fewest_table, fewest_winds
from cagebells.works import Works

GREAT = 10 ** 30
DEPTHS = [0, 10, 30]
CODES = [(1, 2), (3, 4), (5, 6)]
LOADS = [("men", 0, 2), ("coal", 2, 0), ("coal", 0, 1), ("men", 1, 1), ("coal", 1, 2)]
GOALS = [2, 0, 1, 1, 2]
UNKNOWN = (-1, -5, -6, 5, 6, GREAT, -GREAT)


def seen(works):
    return (
        works.now(), works.book(), works.rides(), works.engine(), works.dead(), works.gates(), works.cages(),
        works.spots(), [works.spots_at(tick) for tick in range(works.now() + 1)],
    )


class PlanTest(unittest.TestCase):
    def setUp(self):
        self.works = Works(DEPTHS, CODES, 2, 8, LOADS)

    def refused(self, error, row):
        before = seen(self.works)
        kept = list(row)
        for ask in (self.works.fewest, self.works.table):
            with self.assertRaises(error):
                ask(row)
        self.assertEqual(row, kept)
        self.assertEqual(seen(self.works), before)

    def put_in(self, number, cage):
        level = self.works.spots()[number]
        self.works.open_gate(level)
        self.works.load(number, cage)
        self.works.shut_gate(level)

    def go(self, cage, level):
        strokes = CODES[level][1]
        self.works.ring(level, strokes)
        self.works.repeat(strokes)
        self.works.wind(cage, level, "coal")

    def held(self, row):
        """Holds both answers against the plan's for the stand of now."""
        before = seen(self.works)
        kept = list(row)
        spots = self.works.spots()
        stand = (self.works.cages()[0],) + tuple(spots[number] for number in row)
        goals = [GOALS[number] for number in row]
        told = fewest_winds(DEPTHS, self.works.dead(), stand, goals)
        if told is not None:
            told = (told[0], [step if step[0] == "wind" else (step[0], row[step[1]], step[2]) for step in told[1]])
        self.assertEqual(self.works.fewest(row), told)
        self.assertEqual(self.works.table(row), fewest_table(DEPTHS, self.works.dead(), goals))
        self.assertEqual(row, kept)
        self.assertEqual(seen(self.works), before)

    def held_for_all_rows(self, least=()):
        for many in range(4):
            for row in itertools.permutations(range(5), many):
                if all(number in row for number in least):
                    self.held(list(row))

    def test_by_number(self):
        self.assertEqual(self.works.fewest([4]), (2, [
            ("wind", 0, 1), ("load", 4, 0), ("wind", 1, 0), ("unload", 4, 0)]))
        self.assertEqual(self.works.fewest([3]), (0, []))
        self.assertEqual(self.works.fewest([]), (0, []))
        self.assertEqual(self.works.table([]), {(0,): 0, (10,): 0, (20,): 0, (30,): 0})
        self.assertIs(type(self.works.table([0])), dict)
        self.assertEqual(self.works.table([0])[(0, 0)], 1)

    def test_numbers_of_the_loads_stand_in_the_steps(self):
        for row in ([1, 4, 0], [4, 0, 1], [0, 1, 4]):
            told = self.works.fewest(row)
            named = {step[1] for step in told[1] if step[0] != "wind"}
            self.assertEqual(named, {0, 1, 4})

    def test_the_goals_go_in_the_order_of_the_list(self):
        self.assertEqual(self.works.table([0, 1])[(0, 2, 0)], 0)
        self.assertEqual(self.works.table([1, 0])[(0, 0, 2)], 0)
        self.assertNotEqual(self.works.table([1, 0])[(0, 2, 0)], 0)

    def test_rows_in_any_order_at_first(self):
        self.held_for_all_rows()

    def test_elsewhere_and_laden(self):
        self.put_in(2, 0)
        self.put_in(1, 1)
        self.go(1, 1)
        self.held_for_all_rows((1, 2))

    def test_with_failed_bells(self):
        self.works.fail(1)
        self.held_for_all_rows()
        self.assertIsNone(self.works.fewest([4]))
        self.assertEqual(self.works.table([4])[(0, 1)], -1)
        self.works.fail(2)
        self.works.fail(0)
        self.held_for_all_rows()
        self.assertIsNone(self.works.fewest([0]))
        self.works.take_back()
        self.works.take_back()
        self.works.take_back()
        self.assertEqual(self.works.fewest([4])[0], 2)

    def test_gates_and_bells_make_no_difference(self):
        told = self.works.fewest([0, 1, 4])
        table = self.works.table([0, 1, 4])
        self.works.open_gate(0)
        self.works.open_gate(2)
        self.works.ring(1, 4)
        self.assertEqual((self.works.fewest([0, 1, 4]), self.works.table([0, 1, 4])), (told, table))
        self.works.repeat(4)
        self.assertEqual((self.works.fewest([0, 1, 4]), self.works.table([0, 1, 4])), (told, table))
        self.held([0, 1, 4])

    def test_with_a_full_book(self):
        for many in range(150):
            self.works.open_gate(0)
            self.works.shut_gate(0)
        self.held([4, 0])

    def test_the_steps_told_can_be_done_by_the_works(self):
        number, steps = self.works.fewest([1, 4, 0])
        for step in steps:
            if step[0] == "wind":
                self.go(step[1], step[2])
            elif step[0] == "load":
                self.put_in(step[1], step[2])
            else:
                level = DEPTHS.index(self.works.cages()[step[2]])
                self.assertEqual(self.works.in_cage(step[2]), step[1])
                self.works.open_gate(level)
                self.works.unload(step[2])
                self.works.shut_gate(level)
        self.assertEqual([self.works.spots()[number] for number in (1, 4, 0)], [0, 2, 2])
        winds = [deed for began, ended, deed in self.works.book() if deed[0] == "wind"]
        self.assertEqual(len(winds), number)

    def test_unknown_loads(self):
        for number in UNKNOWN:
            self.refused(UnknownLoad, [number])
            self.refused(UnknownLoad, [0, number])
            self.refused(UnknownLoad, [number, 1, 2])

    def test_bad_rows(self):
        self.refused(BadRow, [0, 1, 2, 3])
        self.refused(BadRow, [4, 3, 2, 1, 0])
        self.refused(BadRow, [0, 0])
        self.refused(BadRow, [0, 1, 0])
        self.refused(BadRow, [4, 4, 4, 4])
        self.held([0, 1, 2])

    def test_a_cage_with_a_load_that_is_not_in_the_row(self):
        self.put_in(0, 0)
        for row in ([], [1], [1, 2, 3]):
            self.refused(CageTaken, row)
        self.held([0])
        self.put_in(1, 1)
        for row in ([], [0], [1], [0, 2, 3], [4, 1]):
            self.refused(CageTaken, row)
        self.held([1, 0])
        self.held([0, 4, 1])

    def test_the_first_of_several_refusals(self):
        self.put_in(0, 0)
        self.refused(UnknownLoad, [1, 1, 5])
        self.refused(UnknownLoad, [1, 2, 3, 4, -1])
        self.refused(UnknownLoad, [-1, -1])
        self.refused(UnknownLoad, [4, GREAT])
        self.refused(BadRow, [1, 1])
        self.refused(BadRow, [1, 2, 3, 4])
        self.refused(BadRow, [0, 0])
        self.refused(CageTaken, [1, 2])

    def test_without_loads(self):
        self.works = Works(DEPTHS, CODES, 2, 8, [])
        self.assertEqual(self.works.fewest([]), (0, []))
        self.refused(UnknownLoad, [0])

    def test_changed_lists_and_dicts(self):
        row = [4, 0]
        told = self.works.fewest(row)
        table = self.works.table(row)
        kept = (told[0], list(told[1]), dict(table))
        told[1].clear()
        table.clear()
        row.clear()
        told = self.works.fewest([4, 0])
        self.assertEqual((told[0], told[1], self.works.table([4, 0])), kept)


if __name__ == "__main__":
    unittest.main()
