import random
import unittest

from cagebells.bells import Bells, check_codes
from cagebells.errors import BadCodes, CageError, DeadBell, NoChange, NoCode, NotArmed, NothingRung, UnknownLevel

GREAT = 10 ** 30
CODES = [(2, 3), (3, 2), (1, 9), (2, 3)]
UNKNOWN = (-1, -4, -5, 4, 5, GREAT, -GREAT)
NOT_RUNG = ("not rung", None, None, None)


class CheckCodesTest(unittest.TestCase):
    def refused(self, codes, many):
        kept = list(codes)
        with self.assertRaises(BadCodes):
            check_codes(codes, many)
        self.assertEqual(codes, kept)

    def test_good_ones_answer_none(self):
        kept = list(CODES)
        self.assertIsNone(check_codes(CODES, 4))
        self.assertEqual(CODES, kept)
        for men in range(1, 10):
            for coal in range(1, 10):
                if men != coal:
                    self.assertIsNone(check_codes([(men, coal), (coal, men)], 2))

    def test_strokes_of_0_1_9_and_10(self):
        for good in (1, 9):
            self.assertIsNone(check_codes([(good, 5), (5, good)], 2))
        for bad in (0, 10, -1, -5, GREAT, -GREAT):
            self.refused([(bad, 5), (1, 2)], 2)
            self.refused([(5, bad), (1, 2)], 2)
            self.refused([(1, 2), (bad, 5)], 2)
            self.refused([(1, 2), (5, bad)], 2)
            self.refused([(bad, bad), (1, 2)], 2)

    def test_alike_codes_of_one_level(self):
        for strokes in range(1, 10):
            self.refused([(strokes, strokes), (1, 2)], 2)
            self.refused([(1, 2), (strokes, strokes)], 2)

    def test_alike_codes_of_two_levels(self):
        self.assertIsNone(check_codes([(1, 2), (1, 2)], 2))
        self.assertIsNone(check_codes([(1, 2)] * 6, 6))
        self.assertIsNone(check_codes([(1, 2), (2, 1), (1, 2)], 3))

    def test_too_long_and_too_short(self):
        for many in range(2, 7):
            self.assertIsNone(check_codes([(1, 2)] * many, many))
            self.refused([(1, 2)] * (many + 1), many)
            self.refused([(1, 2)] * (many - 1), many)
            self.refused([], many)

    def test_a_bad_one_anywhere(self):
        for at in range(6):
            for bad in ((0, 1), (1, 10), (4, 4)):
                codes = [(1, 2)] * 6
                codes[at] = bad
                self.refused(codes, 6)


class BellsTest(unittest.TestCase):
    def setUp(self):
        self.bells = Bells(CODES)

    def seen(self):
        return (self.bells.engine(), self.bells.dead())

    def refused(self, error, deed, *told):
        before = self.seen()
        with self.assertRaises(error):
            deed(*told)
        self.assertEqual(self.seen(), before)

    def arm(self, level, strokes):
        self.assertIsNone(self.bells.ring(level, strokes))
        self.assertEqual(self.bells.repeat(strokes), (True, strokes, strokes))

    def test_at_first(self):
        self.assertEqual(self.seen(), (NOT_RUNG, []))

    def test_each_code_of_each_level_is_rung(self):
        for level, codes in enumerate(CODES):
            for strokes in codes:
                self.assertIsNone(self.bells.ring(level, strokes))
                self.assertEqual(self.bells.engine(), ("not repeated", level, strokes, None))

    def test_the_five_words(self):
        self.assertEqual(self.bells.engine(), ("not rung", None, None, None))
        self.bells.ring(1, 3)
        self.assertEqual(self.bells.engine(), ("not repeated", 1, 3, None))
        self.bells.repeat(3)
        self.assertEqual(self.bells.engine(), ("armed", 1, 3, 3))
        self.bells.use(1, "men")
        self.assertEqual(self.bells.engine(), ("used up", 1, 3, 3))
        self.bells.ring(2, 9)
        self.assertEqual(self.bells.repeat(8), (False, 9, 8))
        self.assertEqual(self.bells.engine(), ("repeated otherwise", 2, 9, 8))
        self.assertIs(type(self.bells.engine()), tuple)

    def test_ring_at_an_unknown_level(self):
        for level in UNKNOWN:
            for strokes in (1, 2, 3, 9, 0, -1, GREAT):
                self.refused(UnknownLevel, self.bells.ring, level, strokes)

    def test_ring_no_code(self):
        for level, codes in enumerate(CODES):
            for strokes in (-GREAT, -1, 0, 1, 2, 3, 4, 5, 6, 7, 8, 9, 10, 11, GREAT):
                if strokes not in codes:
                    self.refused(NoCode, self.bells.ring, level, strokes)

    def test_ring_at_a_dead_bell(self):
        self.bells.fail(1)
        for strokes in (2, 3, 1, 0, 10, GREAT):
            self.refused(DeadBell, self.bells.ring, 1, strokes)
        for level in (0, 2, 3):
            self.assertIsNone(self.bells.ring(level, CODES[level][0]))

    def test_the_order_of_refusals_of_ring(self):
        for level in range(4):
            self.bells.fail(level)
        for level in UNKNOWN:
            self.refused(UnknownLevel, self.bells.ring, level, 2)
            self.refused(UnknownLevel, self.bells.ring, level, 77)
        self.refused(DeadBell, self.bells.ring, 0, 77)

    def test_a_refused_ring_leaves_what_was_rung(self):
        self.bells.fail(3)
        self.bells.ring(0, 2)
        self.refused(NoCode, self.bells.ring, 0, 4)
        self.refused(UnknownLevel, self.bells.ring, 4, 2)
        self.refused(DeadBell, self.bells.ring, 3, 2)
        self.assertEqual(self.bells.repeat(2), (True, 2, 2))
        self.refused(NoCode, self.bells.ring, 0, 4)
        self.refused(UnknownLevel, self.bells.ring, -1, 2)
        self.refused(DeadBell, self.bells.ring, 3, 3)
        self.assertIsNone(self.bells.use(0, "men"))

    def test_ringing_anew_makes_the_earlier_count_no_longer(self):
        self.bells.ring(0, 2)
        self.bells.ring(1, 3)
        self.assertEqual(self.bells.engine(), ("not repeated", 1, 3, None))
        self.assertEqual(self.bells.repeat(2), (False, 3, 2))
        self.arm(0, 2)
        self.bells.ring(2, 9)
        self.refused(NotArmed, self.bells.use, 0, "men")
        self.assertEqual(self.bells.engine(), ("not repeated", 2, 9, None))
        self.arm(0, 2)
        self.bells.ring(0, 2)
        self.refused(NotArmed, self.bells.use, 0, "men")
        self.assertEqual(self.bells.repeat(2), (True, 2, 2))
        self.bells.use(0, "men")
        self.bells.ring(0, 2)
        self.assertEqual(self.bells.engine(), ("not repeated", 0, 2, None))

    def test_repeat_where_nothing_waits(self):
        every = (-GREAT, -1, 0, 1, 2, 3, 9, 10, GREAT)
        for strokes in every:
            self.refused(NothingRung, self.bells.repeat, strokes)
        self.arm(0, 2)
        for strokes in every:
            self.refused(NothingRung, self.bells.repeat, strokes)
        self.bells.use(0, "men")
        for strokes in every:
            self.refused(NothingRung, self.bells.repeat, strokes)
        self.bells.ring(0, 2)
        self.bells.repeat(3)
        for strokes in every:
            self.refused(NothingRung, self.bells.repeat, strokes)

    def test_repeat_no_strokes(self):
        self.bells.ring(2, 9)
        for strokes in (-GREAT, -9, -1, 0, 10, 11, GREAT):
            self.refused(NoCode, self.bells.repeat, strokes)
        self.assertEqual(self.bells.repeat(9), (True, 9, 9))

    def test_repeat_each_of_1_to_9(self):
        for strokes in range(1, 10):
            self.bells.ring(2, 1)
            answer = self.bells.repeat(strokes)
            self.assertEqual(answer, (strokes == 1, 1, strokes))
            self.assertIs(type(answer), tuple)
            self.assertIs(type(answer[0]), bool)
            word = "armed" if strokes == 1 else "repeated otherwise"
            self.assertEqual(self.bells.engine(), (word, 2, 1, strokes))

    def test_the_other_code_of_the_level_is_repeated_otherwise(self):
        self.bells.ring(0, 2)
        self.assertEqual(self.bells.repeat(3), (False, 2, 3))
        self.refused(NotArmed, self.bells.use, 0, "men")
        self.refused(NotArmed, self.bells.use, 0, "coal")
        self.refused(NothingRung, self.bells.repeat, 2)
        self.arm(0, 2)

    def test_fail(self):
        self.assertIsNone(self.bells.fail(2))
        self.assertEqual(self.bells.dead(), [2])
        self.assertIsNone(self.bells.fail(0))
        self.assertIsNone(self.bells.fail(3))
        self.assertEqual(self.bells.dead(), [0, 2, 3])
        self.assertIsNone(self.bells.fail(1))
        self.assertEqual(self.bells.dead(), [0, 1, 2, 3])
        self.assertEqual(self.bells.engine(), NOT_RUNG)

    def test_fail_refusals(self):
        for level in UNKNOWN:
            self.refused(UnknownLevel, self.bells.fail, level)
        for level in range(4):
            self.bells.fail(level)
            self.refused(NoChange, self.bells.fail, level)
        for level in UNKNOWN:
            self.refused(UnknownLevel, self.bells.fail, level)

    def test_a_failing_bell_leaves_what_was_rung_ahead(self):
        for level in (0, 1):
            bells = Bells(CODES)
            bells.ring(0, 2)
            bells.fail(level)
            self.assertEqual(bells.engine(), ("not repeated", 0, 2, None))
            self.assertEqual(bells.repeat(2), (True, 2, 2))
            self.assertEqual(bells.engine(), ("armed", 0, 2, 2))
            self.assertIsNone(bells.use(0, "men"))
            self.assertEqual(bells.engine(), ("used up", 0, 2, 2))

    def test_a_bell_that_fails_while_armed(self):
        self.arm(3, 3)
        self.bells.fail(3)
        self.assertEqual(self.bells.engine(), ("armed", 3, 3, 3))
        self.assertIsNone(self.bells.use(3, "coal"))
        self.refused(DeadBell, self.bells.ring, 3, 3)

    def test_a_bell_that_fails_behind_others(self):
        self.bells.ring(0, 2)
        self.bells.repeat(5)
        self.bells.fail(0)
        self.assertEqual(self.bells.engine(), ("repeated otherwise", 0, 2, 5))
        self.arm(1, 2)
        self.bells.use(1, "coal")
        self.bells.fail(1)
        self.assertEqual(self.bells.engine(), ("used up", 1, 2, 2))

    def test_use_of_each_code(self):
        for level, codes in enumerate(CODES):
            for at, kind in enumerate(("men", "coal")):
                self.arm(level, codes[at])
                self.assertIsNone(self.bells.use(level, kind))
                self.assertEqual(self.bells.engine(), ("used up", level, codes[at], codes[at]))
                self.refused(NotArmed, self.bells.use, level, kind)

    def test_use_where_it_is_not_armed(self):
        self.refused(NotArmed, self.bells.use, 0, "men")
        self.bells.ring(0, 2)
        self.refused(NotArmed, self.bells.use, 0, "men")
        self.bells.repeat(4)
        self.refused(NotArmed, self.bells.use, 0, "men")

    def test_use_for_another_level_or_kind(self):
        self.arm(0, 2)
        self.refused(NotArmed, self.bells.use, 0, "coal")
        # Level 3 has the same codes, and level 1 calls by 2 strokes for coal: the level tells them apart.
        self.refused(NotArmed, self.bells.use, 3, "men")
        self.refused(NotArmed, self.bells.use, 1, "coal")
        self.refused(NotArmed, self.bells.use, 1, "men")
        self.assertIsNone(self.bells.use(0, "men"))

    def test_use_at_an_unknown_level(self):
        for level in UNKNOWN:
            self.refused(UnknownLevel, self.bells.use, level, "men")
        # The last level is armed, which -1 would index.
        self.arm(3, 2)
        for level in UNKNOWN:
            self.refused(UnknownLevel, self.bells.use, level, "men")
        self.assertIsNone(self.bells.use(3, "men"))


class HeldAgainstWordsTest(unittest.TestCase):
    def engine_of(self, done):
        rings = [at for at, deed in enumerate(done) if deed[0] == "ring"]
        if not rings:
            return NOT_RUNG
        level, rung = done[rings[-1]][1:]
        behind = done[rings[-1] + 1:]
        repeats = [deed[1] for deed in behind if deed[0] == "repeat"]
        if not repeats:
            return ("not repeated", level, rung, None)
        if repeats[0] != rung:
            return ("repeated otherwise", level, rung, repeats[0])
        used = any(deed[0] == "use" for deed in behind)
        return ("used up" if used else "armed", level, rung, repeats[0])

    def due(self, done, deed):
        word, level, rung, repeated = self.engine_of(done)
        if deed[0] == "repeat":
            if word != "not repeated":
                return NothingRung
            return None if 1 <= deed[1] <= 9 else NoCode
        if not 0 <= deed[1] < len(CODES):
            return UnknownLevel
        failed = ("fail", deed[1]) in done
        if deed[0] == "fail":
            return NoChange if failed else None
        if deed[0] == "ring":
            if failed:
                return DeadBell
            return None if deed[2] in CODES[deed[1]] else NoCode
        code = CODES[deed[1]][0 if deed[2] == "men" else 1]
        return None if (word, level, rung) == ("armed", deed[1], code) else NotArmed

    def any_deed(self, chance):
        word = chance.choice(("ring",) * 4 + ("repeat",) * 4 + ("use",) * 4 + ("fail",))
        level = chance.choice((0, 0, 1, 1, 2, 3, -1, 4)) if word != "fail" else chance.randrange(-1, 12)
        strokes = chance.choice((2, 2, 2, 3, 3, 1, 9, 0, 10))
        if word == "repeat":
            return (word, strokes)
        if word == "fail":
            return (word, level)
        return (word, level, strokes if word == "ring" else chance.choice(("men", "coal")))

    def test_many_rows_of_deeds(self):
        chance = random.Random(7)
        for row in range(150):
            bells = Bells(CODES)
            done = []
            for many in range(40):
                deed = self.any_deed(chance)
                error = self.due(done, deed)
                try:
                    answer = getattr(bells, deed[0])(*deed[1:])
                except CageError as refusal:
                    self.assertIs(type(refusal), error)
                else:
                    self.assertIsNone(error)
                    done.append(deed)
                    if deed[0] == "repeat":
                        rung = bells.engine()[2]
                        self.assertEqual(answer, (rung == deed[1], rung, deed[1]))
                    else:
                        self.assertIsNone(answer)
                self.assertEqual(bells.engine(), self.engine_of(done))
                self.assertEqual(bells.dead(), sorted(deed[1] for deed in done if deed[0] == "fail"))


class NothingSharedTest(unittest.TestCase):
    def test_two_bells_are_apart(self):
        first = Bells(CODES)
        second = Bells(CODES)
        first.ring(0, 2)
        first.repeat(2)
        first.fail(1)
        self.assertEqual((second.engine(), second.dead()), (NOT_RUNG, []))
        second.fail(2)
        self.assertEqual((first.engine(), first.dead()), (("armed", 0, 2, 2), [1]))

    def test_a_changed_list_that_was_handed_in(self):
        handed = list(CODES)
        bells = Bells(handed)
        handed[0] = (7, 8)
        handed.append((1, 2))
        with self.assertRaises(UnknownLevel):
            bells.ring(4, 1)
        with self.assertRaises(NoCode):
            bells.ring(0, 7)
        handed.clear()
        bells.ring(0, 2)
        bells.repeat(2)
        self.assertIsNone(bells.use(0, "men"))

    def test_the_handed_in_list_is_not_changed(self):
        handed = list(CODES)
        bells = Bells(handed)
        bells.ring(0, 2)
        bells.repeat(2)
        bells.use(0, "men")
        bells.fail(0)
        self.assertEqual(handed, CODES)

    def test_a_changed_list_that_was_told(self):
        bells = Bells(CODES)
        bells.fail(1)
        told = bells.dead()
        told.append(0)
        bells.dead().clear()
        self.assertEqual(bells.dead(), [1])
        self.assertIsNone(bells.ring(0, 2))
        bells.fail(2)
        self.assertEqual(told, [1, 0])
        self.assertIs(type(told), list)


if __name__ == "__main__":
    unittest.main()
