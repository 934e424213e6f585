import unittest

from cagebells.drum import (
    all_stops, check_depths, drum_whole, gates_by, level_at, other_place, wound_place,
)
from cagebells.errors import BadDepths

# Good shafts: even and odd wholes, a first depth of 0 and others, a level in the middle of the drum and none.
SHAFTS = (
    [0, 1], [0, 500], [3, 7], [499, 500], [0, 10, 20], [0, 10, 30], [5, 20, 40], [10, 20, 40, 80],
    [0, 7, 15, 30], [1, 2, 3, 4, 5, 6], [0, 100, 200, 300, 400, 500], [0, 3, 50, 97, 99, 100],
)


class CheckDepthsTest(unittest.TestCase):
    def refused(self, depths):
        kept = list(depths)
        with self.assertRaises(BadDepths):
            check_depths(depths)
        self.assertEqual(depths, kept)

    def test_good_ones_answer_none(self):
        for depths in SHAFTS:
            with self.subTest(depths=depths):
                kept = list(depths)
                self.assertIsNone(check_depths(depths))
                self.assertEqual(depths, kept)

    def test_how_many_levels(self):
        self.refused([])
        self.refused([0])
        self.refused([7])
        self.assertIsNone(check_depths([0, 1]))
        self.assertIsNone(check_depths([0, 1, 2, 3, 4, 5]))
        self.refused([0, 1, 2, 3, 4, 5, 6])

    def test_how_deep(self):
        self.refused([-1, 5])
        self.assertIsNone(check_depths([0, 5]))
        self.assertIsNone(check_depths([5, 500]))
        self.refused([5, 501])
        self.refused([-10 ** 30, 5])
        self.refused([5, 10 ** 30])
        self.refused([-2, -1])
        self.refused([501, 502])

    def test_alike_or_falling(self):
        self.refused([0, 0])
        self.refused([500, 500])
        self.refused([0, 5, 5])
        self.refused([5, 5, 6])
        self.refused([5, 4])
        self.refused([0, 9, 8])
        self.refused([0, 9, 5, 20])
        self.refused([9, 5, 20])
        self.refused([0, 1, 2, 3, 5, 4])
        self.refused([0, 5, 3, 6])


class PlacesTest(unittest.TestCase):
    def test_whole_is_the_last_depth(self):
        self.assertEqual(drum_whole([0, 30]), 30)
        self.assertEqual(drum_whole([10, 20, 45]), 45)
        self.assertEqual(drum_whole([1, 2, 3, 4, 5, 500]), 500)

    def test_two_places_sum_to_the_whole(self):
        for depths in SHAFTS:
            whole = depths[-1]
            for place in range(whole + 1):
                other = other_place(depths, place)
                self.assertEqual(place + other, whole)
                self.assertEqual(other_place(depths, other), place)

    def test_other_place_at_the_ends_and_between(self):
        self.assertEqual(other_place([10, 20, 45], 0), 45)
        self.assertEqual(other_place([10, 20, 45], 45), 0)
        self.assertEqual(other_place([10, 20, 45], 10), 35)

    def test_level_at(self):
        self.assertEqual([level_at([0, 10, 30], depth) for depth in (0, 1, 9, 10, 11, 29, 30)],
                         [0, None, None, 1, None, None, 2])
        self.assertEqual([level_at([5, 6, 40], depth) for depth in (0, 4, 5, 6, 7, 39, 40)],
                         [None, None, 0, 1, None, None, 2])

    def test_level_at_every_depth(self):
        for depths in SHAFTS:
            for depth in range(depths[-1] + 1):
                asked = depths.index(depth) if depth in depths else None
                self.assertEqual(level_at(depths, depth), asked)


class StopsTest(unittest.TestCase):
    def test_each_cage_wound_to_each_level(self):
        for depths in SHAFTS:
            for level in range(len(depths)):
                at_level = wound_place(depths, 0, level)
                self.assertEqual(at_level, depths[level])
                by_other = wound_place(depths, 1, level)
                self.assertEqual(other_place(depths, by_other), depths[level])

    def test_wound_place_by_number(self):
        depths = [5, 20, 45]
        self.assertEqual([wound_place(depths, 0, level) for level in range(3)], [5, 20, 45])
        self.assertEqual([wound_place(depths, 1, level) for level in range(3)], [40, 25, 0])

    def test_stops_rising_each_once(self):
        self.assertEqual(all_stops([0, 10, 30]), [0, 10, 20, 30])
        self.assertEqual(all_stops([0, 10, 20]), [0, 10, 20])
        self.assertEqual(all_stops([0, 500]), [0, 500])
        self.assertEqual(all_stops([0, 10, 20, 30]), [0, 10, 20, 30])

    def test_stops_where_the_first_depth_is_not_0(self):
        self.assertEqual(all_stops([5, 20, 45]), [0, 5, 20, 25, 40, 45])
        self.assertEqual(all_stops([3, 7]), [0, 3, 4, 7])
        self.assertEqual(all_stops([10, 20]), [0, 10, 20])

    def test_stops_are_the_places_by_a_level(self):
        for depths in SHAFTS:
            whole = depths[-1]
            asked = [place for place in range(whole + 1) if place in depths or whole - place in depths]
            self.assertEqual(all_stops(depths), asked)

    def test_gates_by(self):
        self.assertEqual(gates_by([0, 10, 30], 0), [0, 2])
        self.assertEqual(gates_by([0, 10, 30], 30), [0, 2])
        self.assertEqual(gates_by([0, 10, 30], 10), [1])
        self.assertEqual(gates_by([0, 10, 30], 20), [1])
        self.assertEqual(gates_by([0, 10, 20, 30], 20), [1, 2])

    def test_gates_by_where_both_are_at_one_level(self):
        self.assertEqual(gates_by([0, 10, 20], 10), [1])
        self.assertEqual(gates_by([10, 20], 10), [0])

    def test_gates_by_where_both_hang_between_levels(self):
        self.assertEqual(gates_by([0, 10, 30], 15), [])
        self.assertEqual(gates_by([5, 20, 45], 1), [])

    def test_gates_by_everywhere(self):
        for depths in SHAFTS:
            for place in range(depths[-1] + 1):
                other = depths[-1] - place
                asked = [level for level, depth in enumerate(depths) if depth == place or depth == other]
                self.assertEqual(gates_by(depths, place), asked)


class NothingKeptTest(unittest.TestCase):
    def test_depths_stay_as_handed_in(self):
        depths = [5, 20, 45]
        drum_whole(depths)
        other_place(depths, 5)
        level_at(depths, 20)
        level_at(depths, 21)
        wound_place(depths, 0, 1)
        wound_place(depths, 1, 1)
        all_stops(depths)
        gates_by(depths, 5)
        self.assertEqual(depths, [5, 20, 45])

    def test_a_told_list_is_new_each_time(self):
        depths = [0, 10, 30]
        stops = all_stops(depths)
        stops.append(99)
        self.assertEqual(all_stops(depths), [0, 10, 20, 30])
        gates = gates_by(depths, 0)
        gates.clear()
        self.assertEqual(gates_by(depths, 0), [0, 2])
        none = gates_by(depths, 15)
        none.append(1)
        self.assertEqual(gates_by(depths, 15), [])
        self.assertEqual(depths, [0, 10, 30])

    def test_kinds_of_the_answers(self):
        self.assertIs(type(all_stops([0, 10])), list)
        self.assertIs(type(gates_by([0, 10], 0)), list)
        self.assertIs(type(gates_by([0, 10], 5)), list)

    def test_a_changed_list_is_read_anew(self):
        depths = [0, 10, 30]
        all_stops(depths)
        depths[1] = 5
        self.assertEqual(all_stops(depths), [0, 5, 25, 30])


if __name__ == "__main__":
    unittest.main()
