"""Points 1, 10 to 15 and 21: several keepers, what a majority of them gives and says, and whom they name."""

import inspect
import random
import unittest

from fencegate.council import Council
from fencegate.errors import NotFree, UnknownKeeper


def council_with(many, *steps):
    """A council after steps: ("fall", 1), ("give", "ann", "a", False, 0, 10), .. in their order."""
    council = Council(many)
    for step in steps:
        getattr(council, step[0])(*step[1:])
    return council


def falls(*keepers):
    return [("fall", keeper) for keeper in keepers]


def rises(*keepers):
    return [("rise", keeper) for keeper in keepers]


def give(holder, lock, shared=False, tick=0, time=100):
    return ("give", holder, lock, shared, tick, time)


def numbers_at(council, many, tick=0):
    """The numbers of the live notes, keeper by keeper."""
    return [[note[0] for note in council.notes(keeper, tick)] for keeper in range(1, many + 1)]


def state(council, many, tick=0):
    """All that a council keeps: who is up, and each keeper's top and live notes."""
    keepers = range(1, many + 1)
    tops = [council.keeper_at(keeper).top for keeper in keepers]
    return (council.most, council.ups(), tops, [council.notes(keeper, tick) for keeper in keepers])


def only_up(council, many, keepers):
    for keeper in range(1, many + 1):
        if keeper in keepers:
            council.rise(keeper)
        else:
            council.fall(keeper)


class TheInterface(unittest.TestCase):
    def test_the_arguments(self):
        wanted = {
            "fall": ["keeper"],
            "rise": ["keeper"],
            "ups": [],
            "notes": ["keeper", "tick"],
            "sayers": ["holder", "lock", "shared", "tick"],
            "free_by": ["lock", "tick"],
            "drop": ["number", "tick"],
            "give": ["holder", "lock", "shared", "tick", "time"],
            "having": ["lock", "tick"],
            "named": ["holder", "lock", "shared", "tick"],
        }
        for name, arguments in wanted.items():
            with self.subTest(name=name):
                self.assertEqual(list(inspect.signature(getattr(Council(1), name)).parameters), arguments)
        self.assertEqual(list(inspect.signature(Council).parameters), ["many"])

    def test_the_kinds_told(self):
        council = Council(3)
        number, sayers = council.give("ann", "a", True, 0, 10)
        self.assertIs(type(number), int)
        self.assertIs(type(sayers), list)
        self.assertIs(type(council.give("bob", "b", False, 0, 10)), tuple)
        for told in [council.ups(), council.notes(1, 0), council.sayers("ann", "a", True, 0), council.free_by("c", 0),
                     council.drop(99, 0), council.having("a", 0)]:
            self.assertIs(type(told), list)
        row = council.having("a", 0)[0]
        self.assertIs(type(row), tuple)
        self.assertEqual([type(part) for part in row], [int, str, bool, int, list])
        self.assertIs(type(council.notes(1, 0)[0]), tuple)


class Majorities(unittest.TestCase):
    def test_most(self):
        self.assertEqual([Council(many).most for many in range(1, 6)], [1, 2, 2, 3, 3])

    def test_most_counts_those_that_are_down(self):
        self.assertEqual(council_with(5, *falls(1, 2, 3, 4, 5)).most, 3)

    def test_somewhat_beyond_the_bounds_nothing_is_refused(self):
        self.assertEqual([Council(many).most for many in [0, 6, 7]], [1, 4, 4])
        self.assertEqual(Council(7).give("ann", "a", False, 0, 5), (1, [1, 2, 3, 4, 5, 6, 7]))
        self.assertEqual(Council(0).ups(), [])
        with self.assertRaises(NotFree):
            Council(0).give("ann", "a", False, 0, 5)


class FallsAndRises(unittest.TestCase):
    def test_fresh_all_are_up(self):
        for many in range(1, 6):
            self.assertEqual(Council(many).ups(), list(range(1, many + 1)))

    def test_ups_behind_falls_and_rises(self):
        council = Council(5)
        council.fall(4)
        self.assertEqual(council.ups(), [1, 2, 3, 5])
        council.fall(1)
        self.assertEqual(council.ups(), [2, 3, 5])
        council.fall(5)
        council.fall(2)
        council.fall(3)
        self.assertEqual(council.ups(), [])
        council.rise(5)
        council.rise(1)
        self.assertEqual(council.ups(), [1, 5])

    def test_true_if_it_changed_something(self):
        council = Council(3)
        self.assertIs(council.rise(2), False)
        self.assertIs(council.fall(2), True)
        self.assertIs(council.fall(2), False)
        self.assertEqual(council.ups(), [1, 3])
        self.assertIs(council.rise(2), True)
        self.assertIs(council.rise(2), False)
        self.assertEqual(council.ups(), [1, 2, 3])
        self.assertIs(council.rise(1), False)
        self.assertIs(council.fall(3), True)

    def test_notes_outlast_a_fall_and_a_rise(self):
        council = council_with(3, give("ann", "a", time=10))
        note = (1, "ann", "a", False, 10)
        council.fall(2)
        self.assertEqual(council.notes(2, 9), [note])
        self.assertEqual(council.notes(2, 10), [])
        council.rise(2)
        self.assertEqual(council.notes(2, 9), [note])

    def test_an_unknown_keeper_is_refused_and_nothing_changes(self):
        for many in range(1, 6):
            for keeper in [0, -1, -2, -many, many + 1, 6, 999999999999, -999999999999]:
                for down in [[], [1]]:
                    council = council_with(many, give("ann", "a"), *falls(*down))
                    before = state(council, many)
                    for call in [lambda: council.fall(keeper), lambda: council.rise(keeper),
                                 lambda: council.notes(keeper, 0)]:
                        with self.assertRaises(UnknownKeeper) as caught:
                            call()
                        self.assertIs(type(caught.exception), UnknownKeeper)
                    self.assertEqual(state(council, many), before)

    def test_the_first_and_the_last_keeper_are_known(self):
        for many in range(1, 6):
            council = Council(many)
            self.assertIs(council.fall(many), True)
            self.assertEqual(council.ups(), list(range(1, many)))
            self.assertEqual(council.notes(many, 0), [])
            self.assertIs(council.rise(many), True)
            self.assertIs(council.fall(1), True)
            self.assertEqual(council.ups(), list(range(2, many + 1)))

    def test_two_councils_are_apart(self):
        one = Council(3)
        other = Council(3)
        one.give("ann", "a", False, 0, 10)
        one.fall(2)
        self.assertEqual(state(other, 3), (2, [1, 2, 3], [0, 0, 0], [[], [], []]))
        self.assertEqual(other.give("bob", "a", False, 0, 10), (1, [1, 2, 3]))
        self.assertEqual(numbers_at(one, 3), [[1], [1], [1]])
        self.assertEqual(one.notes(1, 0), [(1, "ann", "a", False, 10)])

    def test_keepers_of_one_council_are_apart(self):
        council = council_with(3, ("fall", 3), give("ann", "a"))
        self.assertEqual(numbers_at(council, 3), [[1], [1], []])
        self.assertEqual(council.ups(), [1, 2])


class Sayers(unittest.TestCase):
    def test_fresh_all_that_are_up_say_free(self):
        for many in range(1, 6):
            self.assertEqual(Council(many).sayers("ann", "a", False, 0), list(range(1, many + 1)))
            council = council_with(many, ("fall", 1))
            self.assertEqual(council.sayers("ann", "a", True, 0), list(range(2, many + 1)))

    def test_sayers_are_told_though_they_are_no_majority(self):
        council = council_with(5, *falls(1, 2, 4, 5))
        self.assertEqual(council.sayers("ann", "a", False, 0), [3])
        council.fall(3)
        self.assertEqual(council.sayers("ann", "a", False, 0), [])

    def test_anothers_note_in_the_way_at_some_of_them(self):
        council = council_with(5, *falls(2, 4), give("ann", "a/b", time=10), *rises(2, 4))
        for lock in ["a", "a/b", "a/b/c"]:
            for shared in [True, False]:
                self.assertEqual(council.sayers("bob", lock, shared, 9), [2, 4])
        self.assertEqual(council.sayers("bob", "a/b", False, 10), [1, 2, 3, 4, 5])
        for lock in ["b", "a/c", "ab"]:
            self.assertEqual(council.sayers("bob", lock, False, 9), [1, 2, 3, 4, 5])

    def test_a_down_keeper_is_no_sayer_with_or_without_a_note(self):
        council = council_with(5, *falls(2, 4), give("ann", "a"), *rises(2, 4), *falls(1, 2))
        self.assertEqual(council.sayers("bob", "a", False, 0), [4])
        self.assertEqual(council.sayers("ann", "a", False, 0), [3, 4, 5])

    def test_the_askers_own_notes(self):
        council = council_with(3, give("ann", "a", shared=True))
        for lock in ["a", "a/b"]:
            for shared in [True, False]:
                self.assertEqual(council.sayers("ann", lock, shared, 0), [1, 2, 3])

    def test_shared_askings_side_by_side(self):
        council = council_with(3, give("ann", "a", shared=True))
        self.assertEqual(council.sayers("bob", "a", True, 0), [1, 2, 3])
        self.assertEqual(council.sayers("bob", "a/b", True, 0), [1, 2, 3])
        self.assertEqual(council.sayers("bob", "a", False, 0), [])

    def test_asking_changes_nothing(self):
        council = council_with(3, give("ann", "a"), ("fall", 2))
        before = state(council, 3)
        council.sayers("bob", "a", False, 0)
        council.sayers("bob", "b", False, 0)
        council.having("a", 0)
        council.free_by("b", 0)
        council.named("bob", "a", False, 0)
        self.assertEqual(state(council, 3), before)
        self.assertEqual(council.give("bob", "b", False, 0, 5), (2, [1, 3]))


class Giving(unittest.TestCase):
    def refused(self, council, many, *asking):
        before = state(council, many, asking[3])
        with self.assertRaises(NotFree) as caught:
            council.give(*asking)
        self.assertIs(type(caught.exception), NotFree)
        self.assertEqual(state(council, many, asking[3]), before)

    def test_the_first_of_a_fresh_council(self):
        for many in range(1, 6):
            council = Council(many)
            keepers = list(range(1, many + 1))
            self.assertEqual(council.give("ann", "a", False, 3, 10), (1, keepers))
            for keeper in keepers:
                self.assertEqual(council.notes(keeper, 3), [(1, "ann", "a", False, 13)])

    def test_just_a_majority_up_and_one_less(self):
        for many in range(1, 6):
            most = many // 2 + 1
            council = council_with(many, *falls(*range(most + 1, many + 1)))
            self.assertEqual(council.give("ann", "a", False, 0, 10), (1, list(range(1, most + 1))))
            council = council_with(many, *falls(*range(most, many + 1)))
            self.refused(council, many, "ann", "a", False, 0, 10)

    def test_half_of_an_even_council_is_no_majority(self):
        self.refused(council_with(2, *falls(1)), 2, "ann", "a", False, 0, 10)
        self.refused(council_with(4, *falls(1, 4)), 4, "ann", "a", False, 0, 10)

    def test_just_a_majority_says_free_and_one_less(self):
        # Keeper 4 and 5 of ann's number rise again only once the others have dropped it.
        council = council_with(5, give("ann", "a"), *falls(4, 5), ("drop", 1, 0), *rises(4, 5))
        self.assertEqual(numbers_at(council, 5), [[], [], [], [1], [1]])
        self.assertEqual(council.give("bob", "a", False, 0, 10), (2, [1, 2, 3]))
        council = council_with(5, give("ann", "a"), *falls(4, 5), ("drop", 1, 0), *rises(4, 5), ("fall", 3))
        self.refused(council, 5, "bob", "a", False, 0, 10)
        council = council_with(5, give("ann", "a"), *falls(3, 4, 5), ("drop", 1, 0), *rises(3, 4, 5))
        self.refused(council, 5, "bob", "a", False, 0, 10)

    def test_anothers_live_note_at_all_of_them(self):
        for lock in ["a", "a/b", "a/b/c"]:
            council = council_with(3, give("ann", "a/b", time=10))
            self.refused(council, 3, "bob", lock, False, 9, 5)
            self.assertEqual(council.give("bob", lock, False, 10, 5), (2, [1, 2, 3]))

    def test_each_sayer_has_the_note_and_no_other_learns_of_it(self):
        council = council_with(5, *falls(4, 5), give("ann", "a"), *rises(4, 5), *falls(1, 2), ("drop", 1, 0))
        self.assertEqual(numbers_at(council, 5), [[1], [1], [], [], []])
        # Of the keepers that are up, 3, 4 and 5 say that it is free; 1 rises but has ann's note.
        council.rise(1)
        self.assertEqual(council.give("bob", "a", False, 2, 7), (2, [3, 4, 5]))
        note = (2, "bob", "a", False, 9)
        self.assertEqual([council.notes(keeper, 2) for keeper in range(1, 6)],
                         [[(1, "ann", "a", False, 100)], [(1, "ann", "a", False, 100)], [note], [note], [note]])

    def test_tops_that_only_some_of_those_that_are_up_have(self):
        council = council_with(
            5, *falls(4, 5), give("ann", "a"), give("ann", "b"), *rises(4, 5), *falls(1, 2), give("ann", "c"),
        )
        self.assertEqual(numbers_at(council, 5), [[1, 2], [1, 2], [1, 2, 3], [3], [3]])
        council.rise(1)
        council.rise(2)
        council.fall(3)
        council.fall(4)
        # Of the three that are up, only keeper 5 ever noted the number 3.
        self.assertEqual(council.give("bob", "d", False, 0, 5), (4, [1, 2, 5]))

    def test_a_top_of_a_keeper_that_is_down_and_greater_than_those_up_does_not_count(self):
        # Of two majorities one keeper is in both, so a keeper that is down can be ahead only by what it took alone.
        council = Council(3)
        council.keeper_at(3).take(40, "ann", "z", False, 0, 5)
        council.fall(3)
        self.assertEqual(council.give("bob", "a", False, 0, 5), (1, [1, 2]))
        council.rise(3)
        self.assertEqual(council.give("bob", "b", False, 0, 5), (41, [1, 2, 3]))

    def test_the_top_of_one_that_is_up_and_no_sayer_counts(self):
        council = Council(3)
        council.keeper_at(3).take(40, "ann", "a", False, 0, 5)
        self.assertEqual(council.give("bob", "a", False, 0, 5), (41, [1, 2]))
        self.assertEqual(numbers_at(council, 3), [[41], [41], [40]])

    def test_numbers_rise_over_all_locks(self):
        council = Council(3)
        given = [council.give(holder, lock, False, 0, 5)[0] for holder, lock in
                 [("ann", "a"), ("bob", "b"), ("ann", "c"), ("eve", "d/e")]]
        self.assertEqual(given, [1, 2, 3, 4])

    def test_a_number_is_not_given_again_once_it_is_dropped_or_run_out(self):
        council = council_with(3, give("ann", "a", time=5))
        council.drop(1, 0)
        self.assertEqual(council.give("ann", "a", False, 0, 5)[0], 2)
        self.assertEqual(council.give("bob", "a", False, 5, 5)[0], 3)

    def test_the_same_lock_again_takes_the_old_notes_place_at_the_sayers_alone(self):
        council = council_with(3, give("ann", "a"), ("fall", 1), give("ann", "a", tick=4, time=3))
        self.assertEqual(council.notes(1, 4), [(1, "ann", "a", False, 100)])
        self.assertEqual(council.notes(2, 4), [(2, "ann", "a", False, 7)])
        self.assertEqual(council.notes(3, 4), [(2, "ann", "a", False, 7)])

    def test_shared_beside_shared(self):
        council = Council(3)
        self.assertEqual(council.give("ann", "a", True, 0, 5), (1, [1, 2, 3]))
        self.assertEqual(council.give("bob", "a/b", True, 0, 9), (2, [1, 2, 3]))
        self.assertEqual(council.notes(2, 0), [(1, "ann", "a", True, 5), (2, "bob", "a/b", True, 9)])
        self.refused(council, 3, "eve", "a", False, 0, 5)
        self.refused(council, 3, "ann", "a", False, 0, 5)

    def test_a_refused_giving_spends_no_number(self):
        council = council_with(3, give("ann", "a"))
        for count in range(3):
            self.refused(council, 3, "bob", "a", False, 0, 5)
        self.assertEqual(council.give("bob", "b", False, 0, 5), (2, [1, 2, 3]))

    def test_times_somewhat_beyond_the_bounds(self):
        council = council_with(1, give("ann", "a", time=1001))
        self.assertEqual(council.notes(1, 1000), [(1, "ann", "a", False, 1001)])

    def test_no_number_is_given_twice_whatever_falls_and_rises(self):
        for seed in range(40):
            source = random.Random(seed)
            many = 1 + seed % 5
            council = Council(many)
            last = 0
            for tick in range(60):
                only_up(council, many, [k for k in range(1, many + 1) if source.random() < 0.75])
                holder = source.choice(["ann", "bob", "eve"])
                try:
                    number, sayers = council.give(holder, source.choice(["a", "a/b", "c"]), source.random() < 0.5, tick,
                                                  source.randrange(1, 6))
                except NotFree:
                    continue
                self.assertGreater(number, last)
                last = number
                for keeper in range(1, many + 1):
                    has = number in [note[0] for note in council.notes(keeper, tick)]
                    self.assertEqual(has, keeper in sayers)
                if source.random() < 0.3:
                    council.drop(number, tick)


class Dropping(unittest.TestCase):
    def test_all_that_are_up_and_have_it_the_least_first(self):
        council = council_with(5, ("fall", 2), give("ann", "a"), ("rise", 2), give("bob", "b"))
        self.assertEqual(council.drop(1, 0), [1, 3, 4, 5])
        self.assertEqual(numbers_at(council, 5), [[2], [2], [2], [2], [2]])
        self.assertEqual(council.drop(1, 0), [])
        self.assertEqual(council.drop(2, 0), [1, 2, 3, 4, 5])
        self.assertEqual(numbers_at(council, 5), [[], [], [], [], []])

    def test_one_that_is_down_keeps_its_note_until_it_runs_out(self):
        council = council_with(3, give("ann", "a", time=10), ("fall", 2))
        self.assertEqual(council.drop(1, 3), [1, 3])
        note = (1, "ann", "a", False, 10)
        self.assertEqual(council.notes(2, 3), [note])
        council.rise(2)
        self.assertEqual(council.notes(2, 9), [note])
        self.assertEqual(council.sayers("bob", "a", False, 9), [1, 3])
        self.assertEqual(council.notes(2, 10), [])
        self.assertEqual(council.sayers("bob", "a", False, 10), [1, 2, 3])

    def test_it_is_dropped_by_one_that_rose_again(self):
        council = council_with(3, give("ann", "a"), ("fall", 2), ("drop", 1, 0), ("rise", 2))
        self.assertEqual(council.drop(1, 0), [2])
        self.assertEqual(numbers_at(council, 3), [[], [], []])

    def test_one_tick_below_the_end_and_at_it(self):
        self.assertEqual(council_with(3, give("ann", "a", time=10)).drop(1, 9), [1, 2, 3])
        self.assertEqual(council_with(3, give("ann", "a", time=10)).drop(1, 10), [])

    def test_a_number_that_nobody_has(self):
        council = council_with(3, give("ann", "a"))
        before = state(council, 3)
        for number in [-1, 0, 2, 999999999999]:
            self.assertEqual(council.drop(number, 0), [])
            self.assertEqual(state(council, 3), before)
        self.assertEqual(Council(3).drop(1, 0), [])

    def test_with_all_down(self):
        council = council_with(3, give("ann", "a"), *falls(1, 2, 3))
        self.assertEqual(council.drop(1, 0), [])
        self.assertEqual(numbers_at(council, 3), [[1], [1], [1]])


class Having(unittest.TestCase):
    def test_nobody_has_it(self):
        self.assertEqual(Council(3).having("a", 0), [])

    def test_by_all_by_just_a_majority_and_by_one_less(self):
        for many in range(1, 6):
            most = many // 2 + 1
            council = council_with(many, give("ann", "a", tick=2, time=8))
            for up in range(many, -1, -1):
                only_up(council, many, range(1, up + 1))
                wanted = [(1, "ann", False, 10, list(range(1, up + 1)))] if up >= most else []
                self.assertEqual(council.having("a", 5), wanted, (many, up))

    def test_not_by_half_of_them(self):
        self.assertEqual(council_with(4, give("ann", "a"), *falls(1, 2)).having("a", 0), [])
        self.assertEqual(council_with(2, give("ann", "a"), *falls(2)).having("a", 0), [])

    def test_the_keepers_are_those_that_are_up_and_have_the_note(self):
        council = council_with(5, ("fall", 2), give("ann", "a"), ("rise", 2))
        self.assertEqual(council.having("a", 0), [(1, "ann", False, 100, [1, 3, 4, 5])])
        council.fall(4)
        self.assertEqual(council.having("a", 0), [(1, "ann", False, 100, [1, 3, 5])])
        council.fall(1)
        # Three are up, but one of them has no note.
        self.assertEqual(council.ups(), [2, 3, 5])
        self.assertEqual(council.having("a", 0), [])

    def test_not_by_a_mixture_of_numbers(self):
        # Ann's number 1 stands at 4 and 5 and her number 2 at 1, 2 and 3.
        council = council_with(5, give("ann", "a"), *falls(4, 5), give("ann", "a"), *rises(4, 5))
        self.assertEqual(numbers_at(council, 5), [[2], [2], [2], [1], [1]])
        self.assertEqual(council.having("a", 0), [(2, "ann", False, 100, [1, 2, 3])])
        council.fall(1)
        self.assertEqual(council.ups(), [2, 3, 4, 5])
        self.assertEqual(council.having("a", 0), [])

    def test_the_very_lock_alone(self):
        council = council_with(3, give("ann", "a/b"))
        for lock in ["a", "a/b/c", "a/c", "b", "ab"]:
            self.assertEqual(council.having(lock, 0), [], lock)
        self.assertEqual(council.having("a/b", 0), [(1, "ann", False, 100, [1, 2, 3])])

    def test_several_numbers_the_least_first(self):
        council = council_with(
            3, give("zoe", "a", True, time=40), give("bob", "a", True, time=30), ("fall", 1),
            give("ann", "a", True, time=50), give("eve", "b"), ("rise", 1),
        )
        zoe, bob, ann = (1, "zoe", True, 40, [1, 2, 3]), (2, "bob", True, 30, [1, 2, 3]), (3, "ann", True, 50, [2, 3])
        self.assertEqual(council.having("a", 0), [zoe, bob, ann])
        self.assertEqual(council.having("a", 30), [zoe, ann])

    def test_the_least_number_first_though_the_first_keeper_lacks_it(self):
        council = council_with(3, ("fall", 1), give("ann", "a", True), ("rise", 1), give("bob", "a", True))
        self.assertEqual(council.having("a", 0), [(1, "ann", True, 100, [2, 3]), (2, "bob", True, 100, [1, 2, 3])])

    def test_numbers_are_ordered_as_numbers(self):
        council = Council(1)
        for count in range(12):
            council.give(f"h{count}", "a", True, 0, 5)
        self.assertEqual([row[0] for row in council.having("a", 0)], list(range(1, 13)))

    def test_a_number_out_of_several_that_lacks_a_majority_is_left_out(self):
        council = council_with(
            3, give("ann", "a", True), give("bob", "a", True), *falls(1), ("drop", 1, 0), *rises(1),
        )
        self.assertEqual(council.having("a", 0), [(2, "bob", True, 100, [1, 2, 3])])

    def test_run_out_notes_do_not_count(self):
        council = council_with(3, give("ann", "a", time=10))
        self.assertEqual(council.having("a", 9), [(1, "ann", False, 10, [1, 2, 3])])
        self.assertEqual(council.having("a", 10), [])

    def test_two_minorities_have_nothing(self):
        council = council_with(5, give("ann", "a"), *falls(4, 5), ("drop", 1, 0), *rises(4, 5))
        self.assertEqual(council.having("a", 0), [])


class ToldAsFree(unittest.TestCase):
    def test_fresh(self):
        for many in range(1, 6):
            most = many // 2 + 1
            council = Council(many)
            for up in range(many, -1, -1):
                only_up(council, many, range(1, up + 1))
                self.assertEqual(council.free_by("a", 0), list(range(1, up + 1)) if up >= most else [], (many, up))

    def test_not_by_half_of_them(self):
        self.assertEqual(council_with(4, *falls(1, 2)).free_by("a", 0), [])

    def test_a_note_on_the_line_whether_alone_or_shared(self):
        for shared in [True, False]:
            council = council_with(3, give("ann", "a/b", shared, time=10))
            for lock in ["a", "a/b", "a/b/c"]:
                self.assertEqual(council.free_by(lock, 9), [], lock)
                self.assertEqual(council.free_by(lock, 10), [1, 2, 3], lock)
            for lock in ["b", "a/c", "ab", "a/bc"]:
                self.assertEqual(council.free_by(lock, 9), [1, 2, 3], lock)

    def test_notes_at_some_of_them(self):
        council = council_with(5, give("ann", "a"), *falls(2, 4), ("drop", 1, 0), *rises(2, 4))
        self.assertEqual(council.free_by("a", 0), [1, 3, 5])
        self.assertEqual(council.free_by("a/b", 0), [1, 3, 5])
        council.fall(3)
        self.assertEqual(council.free_by("a", 0), [])
        self.assertEqual(council.free_by("b", 0), [1, 2, 4, 5])

    def test_just_a_majority_and_one_less(self):
        council = council_with(3, give("ann", "a"), ("fall", 3), ("drop", 1, 0), ("rise", 3))
        self.assertEqual(council.free_by("a", 0), [1, 2])
        council = council_with(3, give("ann", "a"), *falls(2, 3), ("drop", 1, 0), *rises(2, 3))
        self.assertEqual(council.free_by("a", 0), [])

    def test_neither_held_nor_free(self):
        council = council_with(4, give("ann", "a"), *falls(3, 4), ("drop", 1, 0), *rises(3, 4))
        self.assertEqual(council.having("a", 0), [])
        self.assertEqual(council.free_by("a", 0), [])

    def test_a_note_off_the_line_beside_one_on_it(self):
        council = council_with(3, give("ann", "b"), give("ann", "a"), give("ann", "c"))
        self.assertEqual(council.free_by("a", 0), [])
        self.assertEqual(council.free_by("d", 0), [1, 2, 3])


class Named(unittest.TestCase):
    def test_none(self):
        self.assertEqual(Council(3).named("bob", "a", False, 0), "")
        self.assertEqual(council_with(3, give("ann", "b")).named("bob", "a", False, 0), "")

    def test_one(self):
        council = council_with(3, give("ann", "a/b", time=10))
        for lock in ["a", "a/b", "a/b/c"]:
            for shared in [True, False]:
                self.assertEqual(council.named("bob", lock, shared, 9), "ann")
                self.assertEqual(council.named("bob", lock, shared, 10), "")
        for lock in ["b", "a/c", "ab"]:
            self.assertEqual(council.named("bob", lock, False, 9), "")

    def test_one_named_by_a_single_keeper_though_the_asking_is_free(self):
        council = council_with(3, give("ann", "a"), ("fall", 2), ("drop", 1, 0), ("rise", 2))
        self.assertEqual(council.sayers("bob", "a", False, 0), [1, 3])
        self.assertEqual(council.named("bob", "a", False, 0), "ann")

    def test_two_of_different_counts(self):
        for most_named, less_named in [("zoe", "ann"), ("ann", "zoe")]:
            council = council_with(
                5, give(less_named, "a"), ("fall", 5), ("drop", 1, 0), ("rise", 5), give(most_named, "a"),
            )
            self.assertEqual(numbers_at(council, 5), [[2], [2], [2], [2], [1]])
            self.assertEqual(council.named("bob", "a", False, 0), most_named)

    def test_a_keeper_that_is_down_names_nobody(self):
        council = council_with(5, give("zoe", "a"), *falls(4, 5), ("drop", 1, 0), *rises(4, 5), give("ann", "a"))
        self.assertEqual(numbers_at(council, 5), [[2], [2], [2], [1], [1]])
        self.assertEqual(council.named("bob", "a", False, 0), "ann")
        council.fall(1)
        council.fall(2)
        self.assertEqual(council.named("bob", "a", False, 0), "zoe")
        council.fall(4)
        council.fall(5)
        self.assertEqual(council.named("bob", "a", False, 0), "ann")
        council.fall(3)
        self.assertEqual(council.named("bob", "a", False, 0), "")

    def test_two_of_equal_counts_the_first_by_name(self):
        for first, second in [("ann", "zoe"), ("zoe", "ann")]:
            council = council_with(2, give(first, "a", True), give(second, "a", True))
            self.assertEqual(council.named("bob", "a", False, 0), "ann")
        council = council_with(1, *[give(name, "a", True) for name in ["b", "a1", "a", "0"]])
        self.assertEqual(council.named("eve", "a", False, 0), "0")
        self.assertEqual(council.named("0", "a", False, 0), "a")

    def test_two_of_equal_counts_named_by_different_keepers(self):
        for first, second in [("ann", "zoe"), ("zoe", "ann")]:
            council = council_with(
                3, ("fall", 3), give(first, "a", True), ("rise", 3), ("fall", 1), give(second, "a", True), ("rise", 1),
            )
            self.assertEqual(numbers_at(council, 3), [[1], [1, 2], [2]])
            self.assertEqual(council.named("bob", "a", False, 0), "ann")

    def test_three_with_two_of_equal_counts(self):
        council = council_with(
            3, ("fall", 3), give("ann", "a", True), ("rise", 3), give("zoe", "a", True), give("kim", "a", True),
        )
        self.assertEqual(numbers_at(council, 3), [[1, 2, 3], [1, 2, 3], [2, 3]])
        self.assertEqual(council.named("bob", "a", False, 0), "kim")

    def test_a_keeper_names_a_holder_once(self):
        # Zoe has three notes at each of three keepers, ann one at each of the same three and at one more.
        council = council_with(
            5, *falls(5, 4), give("zoe", "a", True), give("zoe", "a/b", True), give("zoe", "a/c", True), *rises(4),
            give("ann", "a/d", True),
        )
        self.assertEqual(numbers_at(council, 5), [[1, 2, 3, 4], [1, 2, 3, 4], [1, 2, 3, 4], [4], []])
        self.assertEqual(council.named("bob", "a", False, 0), "ann")
        self.assertEqual(council.named("bob", "a/b", False, 0), "zoe")

    def test_a_holder_with_several_notes_ties_with_one_of_one_note(self):
        council = council_with(1, give("zoe", "a", True), give("zoe", "a/b", True), give("ann", "a/c", True))
        self.assertEqual(council.named("bob", "a", False, 0), "ann")

    def test_the_asker_itself_is_never_named(self):
        council = council_with(3, give("bob", "a"))
        self.assertEqual(council.named("bob", "a", False, 0), "")
        council = council_with(3, give("bob", "a", True), ("fall", 1), give("eve", "a", True), ("rise", 1))
        self.assertEqual(council.named("bob", "a", False, 0), "eve")
        self.assertEqual(council.named("eve", "a", False, 0), "bob")

    def test_shared_beside_shared_names_nobody(self):
        council = council_with(3, give("ann", "a", True))
        self.assertEqual(council.named("bob", "a", True, 0), "")
        self.assertEqual(council.named("bob", "a", False, 0), "ann")


class ToldLists(unittest.TestCase):
    def test_every_told_list_is_the_askers_own(self):
        council = council_with(3, give("ann", "a", True), give("bob", "a", True), ("fall", 3))
        before = state(council, 3)
        held = [(1, "ann", True, 100, [1, 2]), (2, "bob", True, 100, [1, 2])]
        for ask in [
            council.ups, lambda: council.notes(1, 0), lambda: council.sayers("eve", "a", True, 0),
            lambda: council.free_by("b", 0), lambda: council.having("a", 0), lambda: council.having("a", 0)[0][4],
            lambda: council.having("a", 0)[1][4],
        ]:
            for change in [lambda told: told.clear(), lambda told: told.append(9), lambda told: told.reverse()]:
                wanted = ask()
                change(ask())
                self.assertEqual(ask(), wanted)
                self.assertEqual(state(council, 3), before)
                self.assertEqual(council.having("a", 0), held)

    def test_the_lists_of_one_answer_are_apart(self):
        council = council_with(3, give("ann", "a", True), give("bob", "a", True))
        told = council.having("a", 0)
        told[0][4].clear()
        self.assertEqual(told[1], (2, "bob", True, 100, [1, 2, 3]))

    def test_the_sayers_of_a_giving_and_the_keepers_of_a_drop(self):
        council = Council(3)
        given = council.give("ann", "a", False, 0, 10)
        given[1].clear()
        self.assertEqual(state(council, 3), (2, [1, 2, 3], [1, 1, 1], [[(1, "ann", "a", False, 10)]] * 3))
        self.assertEqual(council.having("a", 0), [(1, "ann", False, 10, [1, 2, 3])])
        council.drop(1, 0).append(7)
        self.assertEqual(state(council, 3), (2, [1, 2, 3], [1, 1, 1], [[], [], []]))

    def test_told_lists_do_not_follow_the_council(self):
        council = Council(3)
        given = council.give("ann", "a", False, 0, 10)
        ups, notes, held, free = council.ups(), council.notes(1, 0), council.having("a", 0), council.free_by("b", 0)
        council.fall(1)
        council.give("bob", "b", False, 0, 10)
        council.drop(1, 0)
        self.assertEqual(given, (1, [1, 2, 3]))
        self.assertEqual((ups, free), ([1, 2, 3], [1, 2, 3]))
        self.assertEqual(notes, [(1, "ann", "a", False, 10)])
        self.assertEqual(held, [(1, "ann", False, 10, [1, 2, 3])])


if __name__ == "__main__":
    unittest.main()
