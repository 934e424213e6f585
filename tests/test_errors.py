import unittest

from cagebells import errors

NAMES = (
    "BadDepths", "BadCodes", "BadSpeeds", "BadLoads", "UnknownLevel", "UnknownLoad", "GateOpen", "GateShut",
    "NotArmed", "NoCode", "NothingRung", "DeadBell", "NoChange", "NotThere", "CageTaken", "CageEmpty", "BadRow",
    "NoTick", "NothingDone", "BookFull",
)


class ErrorsTest(unittest.TestCase):
    def test_cage_error_is_a_value_error(self):
        self.assertEqual(errors.CageError.__bases__, (ValueError,))

    def test_twenty_classes_straight_under_cage_error(self):
        self.assertEqual(len(set(NAMES)), 20)
        for name in NAMES:
            with self.subTest(name=name):
                found = getattr(errors, name)
                self.assertEqual(found.__bases__, (errors.CageError,))
                self.assertEqual(found.__name__, name)

    def test_no_two_names_for_one_class(self):
        self.assertEqual(len({getattr(errors, name) for name in NAMES}), 20)

    def test_each_can_be_raised_and_taken(self):
        for name in NAMES:
            with self.subTest(name=name):
                with self.assertRaises(errors.CageError):
                    raise getattr(errors, name)("some words")


if __name__ == "__main__":
    unittest.main()
