import unittest

from cagebells.errors import BadSpeeds
from cagebells.speeds import check_speeds, place_after, wind_ticks

GREAT = 1234567890123456789012345678901234567891
SPEED = 9876543210987654321098765432109876543217
MOST = 10 ** 60 - 1


class CheckSpeedsTest(unittest.TestCase):
    def test_good_ones_answer_none(self):
        for slow, fast in ((1, 1), (1, 2), (1, 500), (499, 500), (500, 500), (3, 8)):
            with self.subTest(slow=slow, fast=fast):
                self.assertIsNone(check_speeds(slow, fast))

    def test_others_are_refused(self):
        bad = (
            (0, 0), (0, 1), (0, 500), (1, 0), (1, 501), (500, 501), (501, 501), (501, 500), (2, 1), (500, 499),
            (500, 1), (-1, 1), (1, -1), (-5, -3), (-10 ** 30, 5), (5, -10 ** 30), (5, 10 ** 30), (10 ** 30, 5),
            (10 ** 30, 10 ** 31),
        )
        for slow, fast in bad:
            with self.subTest(slow=slow, fast=fast):
                with self.assertRaises(BadSpeeds):
                    check_speeds(slow, fast)


class WindTicksTest(unittest.TestCase):
    def test_a_way_of_0_lasts_0_ticks(self):
        for speed in (1, 2, 500, SPEED, MOST):
            self.assertEqual(wind_ticks(0, speed), 0)

    def test_a_multiple_one_less_and_one_more(self):
        self.assertEqual([wind_ticks(way, 7) for way in (27, 28, 29)], [4, 4, 5])
        self.assertEqual([wind_ticks(way, 7) for way in (1, 6, 7, 8)], [1, 1, 1, 2])
        self.assertEqual([wind_ticks(way, 1) for way in (1, 2, 500)], [1, 2, 500])
        self.assertEqual(wind_ticks(3, 500), 1)

    def test_the_least_number_that_is_enough(self):
        for way in range(120):
            for speed in range(1, 30):
                ticks = wind_ticks(way, speed)
                self.assertGreaterEqual(ticks * speed, way)
                self.assertTrue(ticks == 0 or (ticks - 1) * speed < way)

    def test_numbers_of_forty_digits(self):
        self.assertEqual(wind_ticks(GREAT, 1), GREAT)
        self.assertEqual(wind_ticks(GREAT, GREAT), 1)
        self.assertEqual(wind_ticks(GREAT, GREAT - 1), 2)
        self.assertEqual(wind_ticks(GREAT, GREAT + 1), 1)
        self.assertEqual(wind_ticks(3 * SPEED, SPEED), 3)
        self.assertEqual(wind_ticks(3 * SPEED - 1, SPEED), 3)
        self.assertEqual(wind_ticks(3 * SPEED + 1, SPEED), 4)
        self.assertEqual(wind_ticks(SPEED * 12345678901, SPEED), 12345678901)
        self.assertEqual(wind_ticks(SPEED * 12345678901 + 1, SPEED), 12345678902)
        self.assertEqual(wind_ticks(SPEED * 12345678901 - 1, SPEED), 12345678901)
        self.assertEqual(wind_ticks(MOST, 1), MOST)
        self.assertEqual(wind_ticks(1, MOST), 1)
        self.assertIs(type(wind_ticks(GREAT, 3)), int)


class PlaceAfterTest(unittest.TestCase):
    def test_downwards(self):
        self.assertEqual([place_after(10, 31, 5, ticks) for ticks in range(8)], [10, 15, 20, 25, 30, 31, 31, 31])

    def test_upwards(self):
        self.assertEqual([place_after(31, 10, 5, ticks) for ticks in range(8)], [31, 26, 21, 16, 11, 10, 10, 10])

    def test_a_multiple_of_the_speed(self):
        self.assertEqual([place_after(0, 12, 4, ticks) for ticks in range(5)], [0, 4, 8, 12, 12])
        self.assertEqual([place_after(12, 0, 4, ticks) for ticks in range(5)], [12, 8, 4, 0, 0])

    def test_far_behind_the_last_tick(self):
        self.assertEqual(place_after(3, 9, 2, 10 ** 50), 9)
        self.assertEqual(place_after(9, 3, 2, 10 ** 50), 3)

    def test_begin_and_end_alike(self):
        for place in (0, 7, 500, GREAT):
            for ticks in (0, 1, 99, GREAT):
                self.assertEqual(place_after(place, place, 5, ticks), place)

    def test_it_comes_with_the_last_tick_and_not_ahead(self):
        for begin in range(12):
            for end in range(12):
                for speed in range(1, 6):
                    last = wind_ticks(abs(end - begin), speed)
                    self.assertEqual(place_after(begin, end, speed, 0), begin)
                    self.assertEqual(place_after(begin, end, speed, last), end)
                    self.assertEqual(place_after(begin, end, speed, last + 1), end)
                    if last > 0:
                        before = place_after(begin, end, speed, last - 1)
                        self.assertEqual(abs(before - begin), speed * (last - 1))
                        self.assertNotEqual(before, end)

    def test_numbers_of_forty_digits(self):
        end = GREAT + 3 * SPEED + 1
        places = [GREAT, GREAT + SPEED, GREAT + 2 * SPEED, GREAT + 3 * SPEED, end, end]
        self.assertEqual([place_after(GREAT, end, SPEED, ticks) for ticks in range(6)], places)
        back = [end, end - SPEED, end - 2 * SPEED, end - 3 * SPEED, GREAT, GREAT]
        self.assertEqual([place_after(end, GREAT, SPEED, ticks) for ticks in range(6)], back)
        self.assertEqual(place_after(0, MOST, 1, SPEED), SPEED)
        self.assertEqual(place_after(MOST, 0, 1, SPEED), MOST - SPEED)
        self.assertEqual(place_after(0, MOST, MOST, MOST), MOST)
        self.assertEqual(place_after(MOST, 0, MOST, MOST), 0)
        self.assertIs(type(place_after(0, MOST, 7, GREAT)), int)


if __name__ == "__main__":
    unittest.main()
