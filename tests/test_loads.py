import unittest

from cagebells import loads as loads_module
from cagebells.errors import BadLoads, CageEmpty, CageTaken, NotThere, UnknownLevel, UnknownLoad
from cagebells.loads import CAGE_SPOTS, KINDS, MOST_LOADS, Yard, check_loads

LOADS = [("men", 0, 2), ("coal", 2, 0), ("coal", 0, 0), ("men", 1, 1)]
MANY = 3
GREAT = 10 ** 30


def seen(yard, many=MANY):
    return (
        yard.spots(), yard.in_cage(0), yard.in_cage(1),
        [yard.at_level(level) for level in range(many)], yard.men_aboard(),
    )


class NamesTest(unittest.TestCase):
    def test_values(self):
        self.assertEqual(KINDS, ("men", "coal"))
        self.assertEqual(CAGE_SPOTS, (10, 11))
        self.assertEqual(MOST_LOADS, 30)
        self.assertIs(type(loads_module.KINDS), tuple)
        self.assertIs(type(loads_module.CAGE_SPOTS), tuple)


class CheckLoadsTest(unittest.TestCase):
    def refused(self, loads, many):
        kept = list(loads)
        with self.assertRaises(BadLoads):
            check_loads(loads, many)
        self.assertEqual(loads, kept)

    def test_good_ones_answer_none(self):
        kept = list(LOADS)
        self.assertIsNone(check_loads(LOADS, MANY))
        self.assertEqual(LOADS, kept)

    def test_how_many(self):
        self.assertIsNone(check_loads([], 2))
        self.assertIsNone(check_loads([("coal", 0, 1)], 2))
        self.assertIsNone(check_loads([("coal", 0, 1)] * 30, 2))
        self.refused([("coal", 0, 1)] * 31, 2)
        self.refused([("coal", 0, 1)] * 100, 2)

    def test_levels_and_goals(self):
        for many in range(2, 7):
            for kind in KINDS:
                for good in (0, many - 1):
                    self.assertIsNone(check_loads([(kind, good, many - 1 - good)], many))
                    self.assertIsNone(check_loads([(kind, good, good)], many))
                for bad in (-1, many, -many, GREAT, -GREAT):
                    self.refused([(kind, bad, 0)], many)
                    self.refused([(kind, 0, bad)], many)
                    self.refused([(kind, bad, bad)], many)

    def test_a_bad_one_anywhere_in_the_list(self):
        for at in range(5):
            loads = [("coal", 0, 1)] * 4
            loads.insert(at, ("men", 0, 2))
            self.refused(loads, 2)
            loads[at] = ("men", 2, 0)
            self.refused(loads, 2)


class YardTest(unittest.TestCase):
    def setUp(self):
        self.yard = Yard(LOADS, MANY)

    def refused(self, error, deed, *told):
        before = seen(self.yard)
        with self.assertRaises(error):
            deed(*told)
        self.assertEqual(seen(self.yard), before)

    def test_at_first_each_waits_at_its_level(self):
        self.assertEqual(seen(self.yard), ([0, 2, 0, 1], None, None, [[0, 2], [3], [1]], False))

    def test_no_loads(self):
        self.yard = Yard([], 2)
        self.assertEqual(seen(self.yard, 2), ([], None, None, [[], []], False))
        with self.assertRaises(UnknownLoad):
            self.yard.into(0, 0)
        with self.assertRaises(CageEmpty):
            self.yard.out(0, 0)

    def test_into_and_out_deed_by_deed(self):
        self.assertIsNone(self.yard.into(1, 0))
        self.assertEqual(seen(self.yard), ([0, 10, 0, 1], 1, None, [[0, 2], [3], []], False))
        self.assertIsNone(self.yard.into(0, 1))
        self.assertEqual(seen(self.yard), ([11, 10, 0, 1], 1, 0, [[2], [3], []], True))
        self.assertIsNone(self.yard.out(0, 0))
        self.assertEqual(seen(self.yard), ([11, 0, 0, 1], None, 0, [[1, 2], [3], []], True))
        self.assertIsNone(self.yard.out(1, 2))
        self.assertEqual(seen(self.yard), ([2, 0, 0, 1], None, None, [[1, 2], [3], [0]], False))
        self.assertIsNone(self.yard.into(3, 0))
        self.assertEqual(seen(self.yard), ([2, 0, 0, 10], 3, None, [[1, 2], [], [0]], True))
        self.assertIsNone(self.yard.into(0, 1))
        self.assertEqual(seen(self.yard), ([11, 0, 0, 10], 3, 0, [[1, 2], [], []], True))
        self.assertIsNone(self.yard.out(0, 1))
        self.assertIsNone(self.yard.out(1, 1))
        self.assertEqual(seen(self.yard), ([1, 0, 0, 1], None, None, [[1, 2], [0, 3], []], False))

    def test_a_load_may_wait_where_it_was_and_at_any_level(self):
        for level in range(MANY):
            self.yard.into(2, 1)
            self.yard.out(1, level)
            self.assertEqual(self.yard.spots()[2], level)

    def test_men_aboard_in_either_cage_and_only_men(self):
        for cage in (0, 1):
            yard = Yard(LOADS, MANY)
            yard.into(1, 1 - cage)
            self.assertIs(yard.men_aboard(), False)
            yard.into(3, cage)
            self.assertIs(yard.men_aboard(), True)
            yard.out(1 - cage, 0)
            self.assertIs(yard.men_aboard(), True)
            yard.into(2, 1 - cage)
            yard.out(cage, 0)
            self.assertIs(yard.men_aboard(), False)

    def test_two_men_aboard(self):
        self.yard.into(0, 0)
        self.yard.into(3, 1)
        self.assertIs(self.yard.men_aboard(), True)
        self.yard.out(0, 0)
        self.assertIs(self.yard.men_aboard(), True)
        self.yard.out(1, 0)
        self.assertIs(self.yard.men_aboard(), False)

    def test_unknown_load(self):
        for number in (-1, -4, -5, 4, 5, 10, 11, GREAT, -GREAT):
            for cage in (0, 1):
                self.refused(UnknownLoad, self.yard.into, number, cage)

    def test_into_while_it_is_in_a_cage(self):
        self.yard.into(0, 0)
        self.refused(NotThere, self.yard.into, 0, 1)
        self.refused(NotThere, self.yard.into, 0, 0)

    def test_into_a_taken_cage(self):
        for cage in (0, 1):
            self.yard.into(cage, cage)
            self.refused(CageTaken, self.yard.into, 2, cage)
            self.refused(CageTaken, self.yard.into, 3, cage)

    def test_the_order_of_refusals_of_into(self):
        self.yard.into(0, 0)
        self.yard.into(1, 1)
        for cage in (0, 1):
            self.refused(UnknownLoad, self.yard.into, -1, cage)
            self.refused(UnknownLoad, self.yard.into, 4, cage)
            self.refused(NotThere, self.yard.into, 0, cage)
            self.refused(NotThere, self.yard.into, 1, cage)
            self.refused(CageTaken, self.yard.into, 2, cage)

    def test_the_last_load_is_not_taken_for_load_below_0(self):
        self.yard.into(3, 0)
        self.refused(UnknownLoad, self.yard.into, -1, 1)

    def test_out_of_an_empty_cage(self):
        for level in range(MANY):
            self.refused(CageEmpty, self.yard.out, 0, level)
            self.refused(CageEmpty, self.yard.out, 1, level)
        self.yard.into(0, 0)
        self.refused(CageEmpty, self.yard.out, 1, 0)
        self.yard.out(0, 0)
        self.refused(CageEmpty, self.yard.out, 0, 0)

    def test_out_at_an_unknown_level(self):
        self.yard.into(0, 0)
        for level in (-1, -3, 3, 4, 10, 11, GREAT, -GREAT):
            self.refused(UnknownLevel, self.yard.out, 0, level)

    def test_the_order_of_refusals_of_out(self):
        for level in (-1, 3, 10, GREAT):
            self.refused(UnknownLevel, self.yard.out, 0, level)
            self.refused(UnknownLevel, self.yard.out, 1, level)
        self.refused(CageEmpty, self.yard.out, 0, 2)

    def test_at_an_unknown_level(self):
        self.yard.into(0, 0)
        self.yard.into(1, 1)
        for level in (-1, -3, 3, 4, 10, 11, GREAT, -GREAT):
            self.refused(UnknownLevel, self.yard.at_level, level)

    def test_a_level_is_known_by_how_many_there_are(self):
        for many in range(2, 7):
            self.yard = Yard([("coal", 0, 1)], many)
            self.assertEqual(self.yard.at_level(many - 1), [])
            with self.assertRaises(UnknownLevel):
                self.yard.at_level(many)
            self.yard.into(0, 0)
            with self.assertRaises(UnknownLevel):
                self.yard.out(0, many)
            self.yard.out(0, many - 1)
            self.assertEqual(self.yard.at_level(many - 1), [0])

    def test_thirty_loads(self):
        yard = Yard([("coal", number % 6, 0) for number in range(30)], 6)
        self.assertEqual(yard.at_level(5), [5, 11, 17, 23, 29])
        yard.into(29, 1)
        yard.into(10, 0)
        self.assertEqual((yard.in_cage(0), yard.in_cage(1)), (10, 29))
        yard.out(1, 4)
        self.assertEqual(yard.at_level(4), [4, 16, 22, 28, 29])
        with self.assertRaises(UnknownLoad):
            yard.into(30, 1)


class NothingSharedTest(unittest.TestCase):
    def test_two_yards_are_apart(self):
        first = Yard(LOADS, MANY)
        second = Yard(LOADS, MANY)
        untouched = seen(second)
        first.into(0, 0)
        first.into(1, 1)
        first.out(1, 0)
        self.assertEqual(seen(second), untouched)
        second.into(2, 0)
        self.assertEqual(first.in_cage(0), 0)
        self.assertEqual(second.in_cage(0), 2)

    def test_a_changed_list_that_was_handed_in(self):
        handed = list(LOADS)
        yard = Yard(handed, MANY)
        before = seen(yard)
        handed[0] = ("coal", 2, 2)
        handed.append(("men", 0, 0))
        self.assertEqual(seen(yard), before)
        with self.assertRaises(UnknownLoad):
            yard.into(4, 0)
        handed.clear()
        yard.into(0, 0)
        self.assertIs(yard.men_aboard(), True)

    def test_the_handed_in_list_is_not_changed(self):
        handed = list(LOADS)
        yard = Yard(handed, MANY)
        yard.into(0, 0)
        yard.out(0, 2)
        self.assertEqual(handed, LOADS)

    def test_a_changed_list_that_was_told(self):
        yard = Yard(LOADS, MANY)
        yard.into(1, 0)
        before = seen(yard)
        yard.spots()[0] = 2
        yard.spots().clear()
        yard.at_level(0).append(3)
        yard.at_level(0).clear()
        self.assertEqual(seen(yard), before)

    def test_a_told_list_stays_as_it_was_told(self):
        yard = Yard(LOADS, MANY)
        spots = yard.spots()
        waiting = yard.at_level(0)
        yard.into(0, 0)
        self.assertEqual(spots, [0, 2, 0, 1])
        self.assertEqual(waiting, [0, 2])

    def test_kinds_of_the_answers(self):
        yard = Yard(LOADS, MANY)
        self.assertIs(type(yard.spots()), list)
        self.assertIs(type(yard.at_level(0)), list)


if __name__ == "__main__":
    unittest.main()
