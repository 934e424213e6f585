import itertools
import random
import unittest

from cagebells.plan import MOST_PLANNED, all_stands, fewest_table, fewest_winds, stand_after

GREAT = 10 ** 30
# Even and odd wholes, a first depth of 0 and others, stops whose numbers are those of the cages' spots.
SHAFTS = (
    [0, 1], [3, 7], [10, 20], [0, 10, 20], [0, 10, 21], [2, 5, 9], [0, 11, 30], [0, 7, 15, 30], [1, 2, 3, 4, 5, 6],
    [1, 20, 45, 130, 277, 500],
)


def own_stops(depths):
    whole = max(depths)
    return [place for place in range(whole + 1) if place in depths or whole - place in depths]


def own_stands(depths, many):
    spots = list(range(len(depths))) + [10, 11]
    found = []
    for stop in own_stops(depths):
        for row in itertools.product(spots, repeat=many):
            if row.count(10) < 2 and row.count(11) < 2:
                found.append((stop,) + row)
    return sorted(found)


def own_steps(depths, dead, stand):
    """All steps that can be done from the stand, by its words, each with the stand behind it."""
    whole = max(depths)
    stop, spots = stand[0], list(stand[1:])
    places = (stop, whole - stop)
    found = {}
    for cage in (0, 1):
        for level, depth in enumerate(depths):
            if level not in dead:
                found["wind", cage, level] = (depth if cage == 0 else whole - depth,) + tuple(spots)
        for k, spot in enumerate(spots):
            if spot < 10 and depths[spot] == places[cage] and 10 + cage not in spots:
                found["load", k, cage] = (stop,) + tuple(spots[:k] + [10 + cage] + spots[k + 1:])
            if spot == 10 + cage and places[cage] in depths:
                found["unload", k, cage] = (stop,) + tuple(spots[:k] + [depths.index(places[cage])] + spots[k + 1:])
    return found


def own_best(depths, dead, goals):
    """For each stand that has a row: how many winds, and the first winds as (level, cage)."""
    stands = own_stands(depths, len(goals))
    edges = [(stand, step, after) for stand in stands for step, after in own_steps(depths, dead, stand).items()]
    ahead_of = {}
    for stand, step, after in edges:
        ahead_of.setdefault(after, []).append((stand, step))
    best = {(stop,) + tuple(goals): (0, ()) for stop in own_stops(depths)}
    changed = list(best)
    while changed:
        again = {}
        for after in changed:
            many, winds = best[after]
            for stand, step in ahead_of.get(after, ()):
                told = (many, winds) if step[0] != "wind" else (many + 1, ((step[2], step[1]),) + winds)
                if stand not in best or told < best[stand]:
                    best[stand] = told
                    again[stand] = True
        changed = list(again)
    return best


class AllStandsTest(unittest.TestCase):
    def test_most_planned(self):
        self.assertEqual(MOST_PLANNED, 3)

    def test_no_load(self):
        self.assertEqual(all_stands([0, 10, 30], 0), [(0,), (10,), (20,), (30,)])
        self.assertEqual(all_stands([3, 7], 0), [(0,), (3,), (4,), (7,)])

    def test_one_load(self):
        self.assertEqual(all_stands([0, 9], 1),
                         [(0, 0), (0, 1), (0, 10), (0, 11), (9, 0), (9, 1), (9, 10), (9, 11)])

    def test_two_loads(self):
        at_one_stop = [(0, 0), (0, 1), (0, 10), (0, 11), (1, 0), (1, 1), (1, 10), (1, 11),
                       (10, 0), (10, 1), (10, 11), (11, 0), (11, 1), (11, 10)]
        self.assertEqual(all_stands([0, 9], 2), [(stop,) + row for stop in (0, 9) for row in at_one_stop])

    def test_rising_each_once_and_all_of_them(self):
        for depths in SHAFTS:
            for many in range(4):
                stands = all_stands(depths, many)
                self.assertIs(type(stands), list)
                self.assertTrue(all(type(stand) is tuple for stand in stands))
                self.assertTrue(all(first < second for first, second in zip(stands, stands[1:])))
                self.assertEqual(stands, own_stands(depths, many))

    def test_no_two_loads_in_one_cage(self):
        for stand in all_stands([0, 10, 20], 3):
            self.assertLess(stand[1:].count(10), 2)
            self.assertLess(stand[1:].count(11), 2)

    def test_as_many_as_can_be_counted(self):
        for depths in SHAFTS:
            levels = len(depths)
            counted = (1, levels + 2, levels ** 2 + 4 * levels + 2,
                       levels ** 3 + 6 * levels ** 2 + 6 * levels)
            for many in range(4):
                self.assertEqual(len(all_stands(depths, many)), len(own_stops(depths)) * counted[many])
        self.assertEqual(len(all_stands([1, 20, 45, 130, 277, 500], 3)), 12 * 468)

    def test_nothing_is_kept(self):
        depths = [0, 10, 30]
        told = all_stands(depths, 1)
        kept = list(told)
        told.clear()
        self.assertEqual(all_stands(depths, 1), kept)
        self.assertEqual(depths, [0, 10, 30])


class StandAfterTest(unittest.TestCase):
    depths = [0, 10, 30]

    def after(self, stand, step, dead=()):
        depths, bells = list(self.depths), list(dead)
        answer = stand_after(depths, bells, stand, step)
        self.assertEqual((depths, bells), (self.depths, list(dead)))
        return answer

    def test_wind_each_cage_to_each_level(self):
        self.assertEqual([self.after((10, 1, 11), ("wind", 0, level)) for level in range(3)],
                         [(0, 1, 11), (10, 1, 11), (30, 1, 11)])
        self.assertEqual([self.after((10, 1, 11), ("wind", 1, level)) for level in range(3)],
                         [(30, 1, 11), (20, 1, 11), (0, 1, 11)])

    def test_wind_to_where_the_cage_is_already(self):
        self.assertEqual(self.after((0, 2), ("wind", 0, 0)), (0, 2))
        self.assertEqual(self.after((0, 2), ("wind", 1, 2)), (0, 2))
        self.assertEqual(self.after((20,), ("wind", 1, 1)), (20,))
        self.assertIsNone(self.after((0, 2), ("wind", 0, 0), (0,)))

    def test_wind_by_a_dead_bell(self):
        for dead in ((1,), (1, 0), (2, 1), (0, 1, 2)):
            for cage in (0, 1):
                self.assertIsNone(self.after((0, 2), ("wind", cage, 1), dead))
        self.assertEqual(self.after((0, 2), ("wind", 0, 1), (0, 2)), (10, 2))
        # Level 1 is dead, but by the other cage the drum comes to the same stop.
        self.depths = [0, 10, 20, 30]
        self.assertEqual(self.after((0, 2), ("wind", 1, 2), (1,)), (10, 2))

    def test_wind_to_an_unknown_level(self):
        for level in (-1, -3, 3, 4, 10, 11, GREAT, -GREAT):
            for cage in (0, 1):
                for dead in ((), (2,), (0, 1, 2)):
                    self.assertIsNone(self.after((0, 2), ("wind", cage, level), dead))

    def test_load_where_it_waits(self):
        self.assertEqual(self.after((0, 0), ("load", 0, 0)), (0, 10))
        self.assertEqual(self.after((0, 2), ("load", 0, 1)), (0, 11))
        self.assertEqual(self.after((0, 1, 0), ("load", 1, 0)), (0, 1, 10))
        self.assertEqual(self.after((20, 10, 2, 1), ("load", 2, 1)), (20, 10, 2, 11))
        self.assertEqual(self.after((20, 1, 10, 2), ("load", 0, 1)), (20, 11, 10, 2))

    def test_load_where_the_cage_is_not(self):
        self.assertIsNone(self.after((0, 0), ("load", 0, 1)))
        self.assertIsNone(self.after((0, 2), ("load", 0, 0)))
        self.assertIsNone(self.after((0, 1), ("load", 0, 0)))
        self.assertIsNone(self.after((0, 1), ("load", 0, 1)))
        # Cage 0 hangs where no level is.
        for level in range(3):
            self.assertIsNone(self.after((20, level), ("load", 0, 0)))

    def test_load_into_a_taken_cage(self):
        self.assertIsNone(self.after((0, 0, 10), ("load", 0, 0)))
        self.assertIsNone(self.after((0, 11, 2), ("load", 1, 1)))
        self.assertEqual(self.after((0, 0, 11), ("load", 0, 0)), (0, 10, 11))

    def test_load_what_is_in_a_cage(self):
        for cage in (0, 1):
            for spot in (10, 11):
                for stop in (0, 10, 20, 30):
                    self.assertIsNone(self.after((stop, spot), ("load", 0, cage)))

    def test_the_stop_is_no_spot(self):
        self.depths = [0, 10, 20]
        self.assertEqual(self.after((10, 1), ("load", 0, 0)), (10, 10))
        self.assertEqual(self.after((10, 1, 10), ("load", 0, 1)), (10, 11, 10))
        self.depths = [0, 11, 20]
        self.assertEqual(self.after((9, 1), ("load", 0, 1)), (9, 11))
        self.assertEqual(self.after((11, 1), ("load", 0, 0)), (11, 10))
        self.depths = [0, 9, 20]
        self.assertEqual(self.after((11, 1), ("load", 0, 1)), (11, 11))

    def test_both_cages_at_one_level(self):
        self.depths = [0, 10, 20]
        for cage in (0, 1):
            self.assertEqual(self.after((10, 1), ("load", 0, cage)), (10, 10 + cage))
            self.assertEqual(self.after((10, 10 + cage), ("unload", 0, cage)), (10, 1))

    def test_unload(self):
        self.assertEqual(self.after((0, 10), ("unload", 0, 0)), (0, 0))
        self.assertEqual(self.after((0, 11), ("unload", 0, 1)), (0, 2))
        self.assertEqual(self.after((30, 1, 10, 11), ("unload", 1, 0)), (30, 1, 2, 11))
        self.assertEqual(self.after((30, 1, 10, 11), ("unload", 2, 1)), (30, 1, 10, 0))

    def test_unload_where_it_can_not_be(self):
        self.assertIsNone(self.after((0, 10), ("unload", 0, 1)))
        self.assertIsNone(self.after((0, 11), ("unload", 0, 0)))
        self.assertIsNone(self.after((20, 10), ("unload", 0, 0)))
        self.assertIsNone(self.after((10, 11), ("unload", 0, 1)))
        self.assertIsNone(self.after((0, 0), ("unload", 0, 0)))
        self.assertIsNone(self.after((0, 10, 0), ("unload", 1, 0)))

    def test_an_unknown_k(self):
        for stand in ((0,), (0, 0), (0, 10), (0, 0, 11), (0, 10, 2, 0), (0, 0, 0, 10)):
            many = len(stand) - 1
            for k in (-1, -many, -many - 1, many, many + 1, GREAT, -GREAT):
                for cage in (0, 1):
                    if not 0 <= k < many:
                        self.assertIsNone(self.after(stand, ("load", k, cage)))
                        self.assertIsNone(self.after(stand, ("unload", k, cage)))

    def test_bells_make_no_difference_to_loading(self):
        self.assertEqual(self.after((0, 0), ("load", 0, 0), (0, 1, 2)), (0, 10))
        self.assertEqual(self.after((0, 10), ("unload", 0, 0), (0, 1, 2)), (0, 0))

    def test_every_step_from_every_stand(self):
        for depths in ([3, 7], [10, 20], [0, 10, 20], [0, 10, 21]):
            self.depths = depths
            levels = len(depths)
            for dead in ((), (1,), (0, levels - 1)):
                for many in range(3):
                    steps = [("wind", cage, level) for cage in (0, 1) for level in range(-1, levels + 1)]
                    steps += [(word, k, cage) for word in ("load", "unload") for k in range(-1, many + 1)
                              for cage in (0, 1)]
                    for stand in own_stands(depths, many):
                        can = own_steps(depths, dead, stand)
                        for step in steps:
                            self.assertEqual(self.after(stand, step, dead), can.get(step))


class FewestTest(unittest.TestCase):
    def held(self, depths, dead, goals, stands=None):
        """Holds the table, and the rows from these stands (all where none are told), against the own search."""
        handed = (list(depths), list(dead), list(goals))
        best = own_best(depths, dead, goals)
        table = fewest_table(*handed)
        every = own_stands(depths, len(goals))
        self.assertEqual(table, {stand: best[stand][0] if stand in best else -1 for stand in every})
        self.assertIs(type(table), dict)
        for stand in every if stands is None else stands:
            told = fewest_winds(handed[0], handed[1], stand, handed[2])
            if stand not in best:
                self.assertIsNone(told)
            else:
                self.row_held(depths, dead, goals, stand, told, best[stand])
        self.assertEqual(handed, (list(depths), list(dead), list(goals)))

    def row_held(self, depths, dead, goals, stand, told, best):
        self.assertIs(type(told), tuple)
        self.assertIs(type(told[1]), list)
        self.assertEqual(told[0], best[0])
        winds = tuple((step[2], step[1]) for step in told[1] if step[0] == "wind")
        self.assertEqual(winds, best[1])
        been = [stand]
        for step in told[1]:
            self.assertIs(type(step), tuple)
            been.append(own_steps(depths, dead, been[-1])[step])
        self.assertEqual(been[-1][1:], tuple(goals))
        self.assertEqual(len(set(been)), len(been))

    def test_no_loads(self):
        for depths in SHAFTS:
            self.assertEqual(fewest_table(depths, [], []), {(stop,): 0 for stop in own_stops(depths)})
            self.assertEqual(fewest_winds(depths, [0, 1], (depths[0],), []), (0, []))

    def test_one_load_by_number(self):
        self.assertEqual(fewest_winds([0, 10], [], (0, 0), [1]),
                         (1, [("load", 0, 0), ("wind", 1, 0), ("unload", 0, 0)]))
        self.assertEqual(fewest_winds([0, 10], [0], (0, 0), [1]),
                         (1, [("load", 0, 0), ("wind", 0, 1), ("unload", 0, 0)]))
        self.assertEqual(fewest_winds([0, 10], [0, 1], (0, 0), [1]), None)
        self.assertEqual(fewest_winds([0, 10], [0, 1], (0, 10), [0]), (0, [("unload", 0, 0)]))
        self.assertEqual(fewest_winds([0, 10], [], (0, 0), [0]), (0, []))

    def test_from_one_cage_into_the_other_without_a_wind(self):
        self.assertEqual(fewest_table([0, 10, 20], [0, 1, 2], [1])[(10, 11)], 0)
        self.assertEqual(fewest_table([0, 10, 20], [0, 1, 2], [1])[(0, 11)], -1)

    def test_a_dead_bell_can_be_gone_round_by_the_other_cage(self):
        # Level 1 rings no more; where cage 1 is at level 2, cage 0 is at level 1.
        self.assertEqual(fewest_winds([0, 10, 20, 30], [1], (0, 10), [1]),
                         (1, [("wind", 1, 2), ("unload", 0, 0)]))
        self.assertIsNone(fewest_winds([0, 10, 30], [1], (0, 10), [1]))

    def test_small_shafts_all_stands(self):
        for depths in ([0, 1], [3, 7], [10, 20]):
            for dead in ([], [0], [1], [1, 0]):
                for many in range(3):
                    for goals in itertools.product(range(2), repeat=many):
                        self.held(depths, dead, goals)

    def test_three_levels_two_loads(self):
        for depths in ([0, 10, 20], [0, 10, 21], [2, 5, 9]):
            for dead in ([], [1], [2, 0]):
                for goals in ((1,), (0, 2), (1, 1)):
                    self.held(depths, dead, goals)

    def test_three_loads(self):
        chance = random.Random(3)
        for depths, dead, goals in (([0, 9], [], (1, 0, 1)), ([3, 7], [0], (0, 1, 1)), ([0, 10, 20], [], (2, 1, 0)),
                                    ([2, 5, 9], [1], (0, 2, 2)), ([0, 11, 30], [], (1, 0, 2))):
            stands = own_stands(depths, 3)
            self.held(depths, dead, goals, chance.sample(stands, 25))

    def test_greater_shafts(self):
        chance = random.Random(4)
        for depths, dead, goals in (([0, 7, 15, 30], [], (3, 1)), ([0, 7, 15, 30], [3, 0], (0, 2, 3)),
                                    ([1, 2, 3, 4, 5, 6], [2, 4], (0, 5, 3)),
                                    ([1, 20, 45, 130, 277, 500], [], (5, 0, 3))):
            stands = own_stands(depths, len(goals))
            self.held(depths, dead, goals, chance.sample(stands, 6))

    def test_nothing_is_kept(self):
        depths, dead, goals = [0, 10, 20], [1], [2]
        table = fewest_table(depths, dead, goals)
        kept = dict(table)
        table[(0, 0)] = 99
        self.assertEqual(fewest_table(depths, dead, goals), kept)
        table.clear()
        told = fewest_winds(depths, dead, (0, 0), goals)
        row = list(told[1])
        told[1].clear()
        self.assertEqual(fewest_winds(depths, dead, (0, 0), goals), (told[0], row))
        dead.clear()
        goals[0] = 1
        self.assertEqual(fewest_table(depths, dead, goals), fewest_table([0, 10, 20], [], [1]))
        self.assertNotEqual(fewest_table(depths, dead, goals), kept)


if __name__ == "__main__":
    unittest.main()
