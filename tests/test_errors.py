"""The refusals of the interface: their classes, where they stand, and their words."""

import unittest

from fencegate import errors

WORDS = {
    "BadSetup": "setup",
    "UnknownHolder": "holder",
    "UnknownLock": "lock",
    "UnknownStore": "store",
    "UnknownKeeper": "keeper",
    "BadTime": "time",
    "Asleep": "asleep",
    "Awake": "awake",
    "PausesSpent": "pauses",
    "Waiting": "waiting",
    "Holding": "holding",
    "NotShared": "not shared",
    "NotHeld": "not held",
    "ReadersOnly": "readers only",
    "Down": "down",
    "OldNumber": "old number",
    "InTheWay": "in the way",
    "NotFree": "not free",
}


class TheClasses(unittest.TestCase):
    def test_a_gate_error_is_a_value_error(self):
        self.assertEqual(errors.GateError.__bases__, (ValueError,))

    def test_all_eighteen_stand_straight_under_gate_error(self):
        self.assertEqual(len(WORDS), 18)
        for name in WORDS:
            with self.subTest(name=name):
                self.assertEqual(getattr(errors, name).__bases__, (errors.GateError,))

    def test_none_stands_under_another_of_the_list(self):
        for name in WORDS:
            for other in WORDS:
                if name != other:
                    with self.subTest(name=name, other=other):
                        self.assertFalse(issubclass(getattr(errors, name), getattr(errors, other)))

    def test_each_bears_its_own_name(self):
        for name in WORDS:
            with self.subTest(name=name):
                self.assertEqual(getattr(errors, name).__name__, name)

    def test_each_can_be_raised_and_taken_as_a_gate_error(self):
        for name in WORDS:
            with self.subTest(name=name):
                with self.assertRaises(errors.GateError) as caught:
                    raise getattr(errors, name)("why")
                self.assertIs(type(caught.exception), getattr(errors, name))

    def test_each_has_the_word_of_the_interface(self):
        for name, word in WORDS.items():
            with self.subTest(name=name):
                self.assertEqual(getattr(errors, name)("why").word(), word)


if __name__ == "__main__":
    unittest.main()
