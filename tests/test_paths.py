"""Points 2 to 4: names and paths, lines, and what is in each other's way."""

import inspect
import unittest

from fencegate import paths
from fencegate.paths import good_name, good_path, in_way, on_line, within

ALL_SIGNS = [chr(code) for code in range(ord(" "), ord("~") + 1)]
NAME_SIGNS = "abcdefghijklmnopqrstuvwxyz0123456789"


class TheInterface(unittest.TestCase):
    def test_the_numbers(self):
        self.assertEqual(paths.MOST_TIME, 1000)
        self.assertEqual(paths.MOST_PAUSES, 20)

    def test_the_arguments(self):
        wanted = {
            "good_name": ["text"],
            "good_path": ["text"],
            "within": ["inner", "outer"],
            "on_line": ["one", "other"],
            "in_way": ["lock", "shared", "other", "other_shared"],
        }
        for name, arguments in wanted.items():
            with self.subTest(name=name):
                self.assertEqual(list(inspect.signature(getattr(paths, name)).parameters), arguments)


class Names(unittest.TestCase):
    def test_lengths(self):
        for length in range(1, 9):
            self.assertIs(good_name("a" * length), True, length)
        self.assertIs(good_name(""), False)
        self.assertIs(good_name("a" * 9), False)
        self.assertIs(good_name("a" * 40), False)

    def test_ends_of_the_letters_and_figures_and_the_signs_just_outside(self):
        for sign in "az09":
            self.assertIs(good_name(sign), True, sign)
        for sign in "`{/:":
            self.assertIs(good_name(sign), False, sign)

    def test_every_sign_in_every_place(self):
        for sign in ALL_SIGNS:
            good = sign in NAME_SIGNS
            for text in [sign, sign + "b1", "b" + sign + "1", "b1" + sign, "1234567" + sign]:
                self.assertIs(good_name(text), good, text)

    def test_large_letters_low_line_stroke_blank_and_full_stop(self):
        for text in ["A", "Z", "aB", "a_b", "_", "a/b", "/", " ", "a b", " a", "a ", ".", "a.b", "a-b"]:
            self.assertIs(good_name(text), False, text)

    def test_figures_alone_are_a_name(self):
        self.assertIs(good_name("01234567"), True)


class Paths(unittest.TestCase):
    def test_counts_of_names(self):
        for text in ["a", "a/b", "a/b/c", "a/b/c/d"]:
            self.assertIs(good_path(text), True, text)
        for text in ["", "a/b/c/d/e", "a/b/c/d/e/f"]:
            self.assertIs(good_path(text), False, text)

    def test_an_empty_name_in_any_place(self):
        for text in ["/", "/a", "a/", "a//b", "/a/b", "a/b/", "//", "a/b//c", "a/b/c/", "/a/b/c"]:
            self.assertIs(good_path(text), False, text)

    def test_a_name_of_eight_and_of_nine_signs_in_any_place(self):
        for count in range(1, 5):
            for place in range(count):
                for length, good in [(8, True), (9, False)]:
                    names = ["x"] * count
                    names[place] = "n" * length
                    self.assertIs(good_path("/".join(names)), good, names)

    def test_every_sign_in_every_name(self):
        for sign in ALL_SIGNS:
            if sign != "/":
                good = sign in NAME_SIGNS
                for text in [sign, sign + "/b", "a/" + sign, "a/x" + sign + "y/c", "a/b/c/d" + sign]:
                    self.assertIs(good_path(text), good, text)

    def test_the_same_name_may_stand_twice(self):
        self.assertIs(good_path("a/a/a/a"), True)


class Lines(unittest.TestCase):
    def test_a_lock_lies_within_itself(self):
        for path in ["a", "a/b", "a/b/c/d"]:
            self.assertIs(within(path, path), True, path)

    def test_within_goes_one_way(self):
        for inner, outer in [("a/b/c", "a"), ("a/b/c", "a/b"), ("a/b", "a"), ("a/a", "a"), ("a/b/c/d", "a/b/c")]:
            self.assertIs(within(inner, outer), True, (inner, outer))
            self.assertIs(within(outer, inner), False, (outer, inner))

    def test_paths_somewhat_beyond_their_bounds(self):
        self.assertIs(within("a/b/c/d/e", "a/b/c/d"), True)
        self.assertIs(within("a/b/c/d", "a/b/c/d/e"), False)
        self.assertIs(within("a/b/c/d/e", "a/b/c/d/f"), False)

    def test_neither_within_the_other(self):
        pairs = [
            ("ab", "a"), ("ab/c", "a"), ("a/bc", "a/b"), ("a", "b"), ("a/b", "a/c"), ("a/b", "b"), ("a/b", "b/a"),
            ("a/b/c", "a/c"), ("a/b/c", "b/c"), ("a/b/c", "c"),
        ]
        for one, other in pairs:
            self.assertIs(within(one, other), False, (one, other))
            self.assertIs(within(other, one), False, (other, one))

    def test_on_line_both_ways_round(self):
        cases = [
            ("a", "a", True), ("a/b/c", "a", True), ("a/b", "a/b/c", True), ("ab", "a", False), ("a/b", "a/c", False),
            ("a/b", "b", False), ("a", "b", False), ("a/bc", "a/b", False),
        ]
        for one, other, wanted in cases:
            self.assertIs(on_line(one, other), wanted, (one, other))
            self.assertIs(on_line(other, one), wanted, (other, one))


class InTheWay(unittest.TestCase):
    def test_on_one_line_all_four_ways(self):
        for lock, other in [("a", "a"), ("a", "a/b"), ("a/b", "a"), ("a/b/c", "a"), ("a", "a/b/c")]:
            self.assertIs(in_way(lock, False, other, False), True, (lock, other))
            self.assertIs(in_way(lock, False, other, True), True, (lock, other))
            self.assertIs(in_way(lock, True, other, False), True, (lock, other))
            self.assertIs(in_way(lock, True, other, True), False, (lock, other))

    def test_off_the_line_never(self):
        for lock, other in [("a", "b"), ("b", "a"), ("a", "ab"), ("ab", "a"), ("a/b", "a/c"), ("a/c", "a/b")]:
            for shared in [True, False]:
                for other_shared in [True, False]:
                    self.assertIs(in_way(lock, shared, other, other_shared), False, (lock, other))


if __name__ == "__main__":
    unittest.main()
