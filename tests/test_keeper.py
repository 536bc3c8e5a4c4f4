"""Points 1 and 5 to 9: one keeper, its notes, its falls, what it takes and drops."""

import inspect
import unittest

from fencegate.errors import Down, InTheWay, OldNumber
from fencegate.keeper import Keeper


def keeper_with(*notes):
    """A keeper that took these (number, holder, lock, shared, tick, time) in their order."""
    keeper = Keeper()
    for note in notes:
        keeper.take(*note)
    return keeper


def state(keeper, tick=0):
    return (keeper.up, keeper.top, keeper.live(tick))


class TheInterface(unittest.TestCase):
    def test_the_arguments(self):
        wanted = {
            "fall": [],
            "rise": [],
            "live": ["tick"],
            "says_free": ["holder", "lock", "shared", "tick"],
            "take": ["number", "holder", "lock", "shared", "tick", "time"],
            "drop": ["number", "tick"],
        }
        for name, arguments in wanted.items():
            with self.subTest(name=name):
                self.assertEqual(list(inspect.signature(getattr(Keeper(), name)).parameters), arguments)
        self.assertEqual(list(inspect.signature(Keeper).parameters), [])

    def test_fall_rise_and_take_tell_none(self):
        keeper = Keeper()
        self.assertIsNone(keeper.fall())
        self.assertIsNone(keeper.rise())
        self.assertIsNone(keeper.take(1, "ann", "a", False, 0, 5))


class FallsAndRises(unittest.TestCase):
    def test_a_fresh_keeper(self):
        keeper = Keeper()
        self.assertIs(keeper.up, True)
        self.assertEqual(keeper.top, 0)
        self.assertEqual(keeper.live(0), [])

    def test_a_fall_and_a_rise_each_twice(self):
        keeper = Keeper()
        for change, up in [("fall", False), ("fall", False), ("rise", True), ("rise", True), ("fall", False)]:
            getattr(keeper, change)()
            self.assertIs(keeper.up, up)

    def test_a_rise_of_a_fresh_keeper_does_nothing(self):
        keeper = Keeper()
        keeper.rise()
        self.assertEqual(state(keeper), (True, 0, []))

    def test_notes_and_top_outlast_a_fall_and_a_rise(self):
        keeper = keeper_with((3, "ann", "a", False, 0, 10), (7, "bob", "b", True, 0, 10))
        notes = [(3, "ann", "a", False, 10), (7, "bob", "b", True, 10)]
        keeper.fall()
        keeper.fall()
        self.assertEqual(state(keeper), (False, 7, notes))
        keeper.rise()
        keeper.rise()
        self.assertEqual(state(keeper), (True, 7, notes))

    def test_one_that_is_down_still_tells_live_and_says_free(self):
        keeper = keeper_with((1, "ann", "a", False, 0, 10))
        keeper.fall()
        self.assertEqual(keeper.live(9), [(1, "ann", "a", False, 10)])
        self.assertIs(keeper.says_free("bob", "a", False, 9), False)
        self.assertIs(keeper.says_free("ann", "a", False, 9), True)
        self.assertIs(keeper.says_free("bob", "b", False, 9), True)
        self.assertEqual(keeper.live(10), [])
        self.assertIs(keeper.says_free("bob", "a", False, 10), True)

    def test_the_top_outlasts_the_notes_it_came_with(self):
        keeper = keeper_with((5, "ann", "a", False, 0, 1))
        self.assertEqual(state(keeper, 1), (True, 5, []))

    def test_two_keepers_are_apart(self):
        one = Keeper()
        other = Keeper()
        one.take(4, "ann", "a", False, 0, 10)
        one.fall()
        self.assertEqual(state(other), (True, 0, []))
        other.take(1, "bob", "a", False, 0, 10)
        self.assertEqual(state(one), (False, 4, [(4, "ann", "a", False, 10)]))
        self.assertEqual(state(other), (True, 1, [(1, "bob", "a", False, 10)]))


class LiveNotes(unittest.TestCase):
    def test_live_one_tick_below_the_end_and_run_out_at_it(self):
        for tick, time in [(0, 1), (0, 1000), (7, 1), (7, 1000), (41, 5)]:
            with self.subTest(tick=tick, time=time):
                note = (1, "ann", "a", False, tick + time)
                keeper = keeper_with((1, "ann", "a", False, tick, time))
                self.assertEqual(keeper.live(tick), [note])
                self.assertEqual(keeper.live(tick + time - 1), [note])
                self.assertIs(keeper.says_free("bob", "a", False, tick + time - 1), False)
                self.assertEqual(keeper.live(tick + time), [])
                self.assertIs(keeper.says_free("bob", "a", False, tick + time), True)
                self.assertEqual(keeper.live(tick + time + 1), [])

    def test_by_number_the_least_first_with_run_out_notes_left_out(self):
        keeper = keeper_with(
            (2, "zoe", "d", False, 0, 30), (3, "ann", "a", False, 0, 10), (10, "bob", "b", True, 0, 20),
            (11, "ann", "c", True, 5, 5), (400, "abe", "e/f", False, 6, 30),
        )
        zoe, ann, bob = (2, "zoe", "d", False, 30), (3, "ann", "a", False, 10), (10, "bob", "b", True, 20)
        reader, abe = (11, "ann", "c", True, 10), (400, "abe", "e/f", False, 36)
        self.assertEqual(keeper.live(6), [zoe, ann, bob, reader, abe])
        self.assertEqual(keeper.live(10), [zoe, bob, abe])
        self.assertEqual(keeper.live(20), [zoe, abe])
        self.assertEqual(keeper.live(30), [abe])
        self.assertEqual(keeper.live(36), [])

    def test_a_lock_taken_again_is_told_in_the_place_of_its_new_number(self):
        keeper = keeper_with((1, "ann", "a", False, 0, 10), (2, "bob", "b", False, 0, 10))
        keeper.take(3, "ann", "a", False, 0, 10)
        self.assertEqual(keeper.live(0), [(2, "bob", "b", False, 10), (3, "ann", "a", False, 10)])

    def test_asking_changes_nothing(self):
        keeper = keeper_with((1, "ann", "a", False, 0, 10))
        keeper.says_free("bob", "a", True, 3)
        keeper.live(3)
        self.assertEqual(state(keeper, 3), (True, 1, [(1, "ann", "a", False, 10)]))

    def test_a_told_list_is_the_askers_own(self):
        keeper = keeper_with((1, "ann", "a", False, 0, 10), (2, "bob", "b", False, 0, 10))
        notes = [(1, "ann", "a", False, 10), (2, "bob", "b", False, 10)]
        told = keeper.live(0)
        told.append((9, "eve", "c", False, 99))
        told.pop(0)
        self.assertEqual(state(keeper), (True, 2, notes))
        self.assertIs(keeper.says_free("eve", "a", False, 0), False)
        self.assertIs(keeper.says_free("ann", "c", False, 0), True)
        again = keeper.live(0)
        again.clear()
        self.assertEqual(state(keeper), (True, 2, notes))

    def test_a_told_list_does_not_follow_the_keeper(self):
        keeper = keeper_with((1, "ann", "a", False, 0, 10))
        told = keeper.live(0)
        keeper.take(2, "bob", "b", False, 0, 10)
        keeper.drop(1, 0)
        self.assertEqual(told, [(1, "ann", "a", False, 10)])


class SayingFree(unittest.TestCase):
    def test_with_no_notes(self):
        self.assertIs(Keeper().says_free("ann", "a", False, 0), True)
        self.assertIs(Keeper().says_free("ann", "a", True, 0), True)

    def test_ones_own_notes_are_never_in_the_way(self):
        for held in [True, False]:
            keeper = keeper_with((1, "ann", "a/b", held, 0, 10))
            for lock in ["a", "a/b", "a/b/c"]:
                for shared in [True, False]:
                    self.assertIs(keeper.says_free("ann", lock, shared, 0), True, (held, lock, shared))

    def test_anothers_in_the_way(self):
        for lock in ["a", "a/b", "a/b/c"]:
            alone = keeper_with((1, "ann", "a/b", False, 0, 10))
            self.assertIs(alone.says_free("bob", lock, False, 0), False, lock)
            self.assertIs(alone.says_free("bob", lock, True, 0), False, lock)
            readers = keeper_with((1, "ann", "a/b", True, 0, 10))
            self.assertIs(readers.says_free("bob", lock, False, 0), False, lock)

    def test_anothers_shared_beside_a_shared_asking(self):
        keeper = keeper_with((1, "ann", "a/b", True, 0, 10))
        for lock in ["a", "a/b", "a/b/c"]:
            self.assertIs(keeper.says_free("bob", lock, True, 0), True, lock)

    def test_anothers_off_the_line(self):
        keeper = keeper_with((1, "ann", "a/b", False, 0, 10))
        for lock in ["b", "a/c", "a/bc", "ab"]:
            self.assertIs(keeper.says_free("bob", lock, False, 0), True, lock)

    def test_anothers_run_out(self):
        keeper = keeper_with((1, "ann", "a", False, 0, 10))
        self.assertIs(keeper.says_free("bob", "a", False, 9), False)
        self.assertIs(keeper.says_free("bob", "a", False, 10), True)

    def test_any_one_of_several_notes_is_enough(self):
        for place in range(3):
            locks = ["x", "y", "z"]
            locks[place] = "a"
            keeper = keeper_with(*[(n + 1, "ann", lock, False, 0, 10) for n, lock in enumerate(locks)])
            self.assertIs(keeper.says_free("bob", "a", False, 0), False, place)

    def test_anothers_counts_beside_ones_own(self):
        keeper = keeper_with((1, "ann", "a", True, 0, 10), (2, "bob", "a", True, 0, 10))
        self.assertIs(keeper.says_free("ann", "a", True, 0), True)
        self.assertIs(keeper.says_free("ann", "a", False, 0), False)
        self.assertIs(keeper.says_free("bob", "a", False, 0), False)


class Taking(unittest.TestCase):
    def refused(self, error, keeper, *note):
        tick = note[4]
        before = state(keeper, tick)
        with self.assertRaises(error) as caught:
            keeper.take(*note)
        self.assertIs(type(caught.exception), error)
        self.assertEqual(state(keeper, tick), before)

    def keeper(self, down=False):
        keeper = keeper_with((5, "ann", "a", False, 0, 10), (6, "bob", "c", False, 0, 10))
        if down:
            keeper.fall()
        return keeper

    def test_each_refusal_alone(self):
        self.refused(Down, self.keeper(down=True), 7, "bob", "b", False, 1, 5)
        self.refused(OldNumber, self.keeper(), 6, "bob", "b", False, 1, 5)
        self.refused(InTheWay, self.keeper(), 7, "bob", "a", False, 1, 5)

    def test_each_pair_and_all_three_the_first_named_comes(self):
        self.refused(Down, self.keeper(down=True), 6, "bob", "b", False, 1, 5)
        self.refused(Down, self.keeper(down=True), 7, "bob", "a", False, 1, 5)
        self.refused(OldNumber, self.keeper(), 6, "bob", "a", False, 1, 5)
        self.refused(Down, self.keeper(down=True), 6, "bob", "a", False, 1, 5)

    def test_a_refused_take_keeps_the_older_note_of_the_same_holder_and_lock(self):
        self.refused(Down, self.keeper(down=True), 7, "ann", "a", False, 1, 5)
        self.refused(OldNumber, self.keeper(), 6, "ann", "a", False, 1, 5)
        shared = keeper_with((1, "ann", "a", True, 0, 10), (2, "bob", "a", True, 0, 10))
        self.refused(InTheWay, shared, 3, "ann", "a", False, 1, 5)

    def test_after_a_refusal_the_same_number_can_be_taken(self):
        keeper = self.keeper()
        self.refused(InTheWay, keeper, 7, "bob", "a", False, 1, 5)
        keeper.take(7, "bob", "b", False, 1, 5)
        self.assertEqual(keeper.top, 7)

    def test_numbers_below_and_at_the_top_and_one_above_it(self):
        for number in [-3, 0, 1, 4, 5, 6]:
            self.refused(OldNumber, self.keeper(), number, "bob", "b", False, 1, 5)
        keeper = self.keeper()
        keeper.take(7, "bob", "b", True, 1, 5)
        notes = [(5, "ann", "a", False, 10), (6, "bob", "c", False, 10), (7, "bob", "b", True, 6)]
        self.assertEqual(state(keeper, 1), (True, 7, notes))

    def test_a_fresh_keeper_takes_1_and_refuses_0(self):
        self.refused(OldNumber, Keeper(), 0, "ann", "a", False, 0, 5)
        self.assertEqual(state(keeper_with((1, "ann", "a", False, 0, 5))), (True, 1, [(1, "ann", "a", False, 5)]))

    def test_the_top_is_judged_even_when_its_note_is_run_out_or_dropped(self):
        keeper = keeper_with((5, "ann", "a", False, 0, 1))
        self.refused(OldNumber, keeper, 5, "bob", "b", False, 9, 5)
        keeper = keeper_with((5, "ann", "a", False, 0, 10))
        keeper.drop(5, 0)
        self.refused(OldNumber, keeper, 5, "ann", "a", False, 1, 5)

    def test_numbers_may_be_left_out(self):
        keeper = keeper_with((3, "ann", "a", False, 0, 5), (999999999999, "bob", "b", False, 0, 5))
        self.assertEqual(keeper.top, 999999999999)

    def test_a_note_keeps_all_that_was_handed_in(self):
        keeper = keeper_with((2, "bob", "x/y", True, 3, 1000))
        self.assertEqual(keeper.live(3), [(2, "bob", "x/y", True, 1003)])
        self.assertIs(type(keeper.live(3)[0]), tuple)
        self.assertIs(keeper.live(3)[0][3], True)

    def test_the_same_holder_and_lock_again_takes_the_old_notes_place(self):
        for before, after in [(False, False), (False, True), (True, False), (True, True)]:
            keeper = keeper_with((1, "ann", "a", before, 0, 100), (2, "ann", "a", after, 1, 5))
            self.assertEqual(keeper.live(1), [(2, "ann", "a", after, 6)])
            self.assertEqual(keeper.live(6), [])

    def test_notes_for_other_locks_and_of_other_holders_stay(self):
        keeper = keeper_with(
            (1, "ann", "a", True, 0, 100), (2, "ann", "a/b", True, 0, 100), (3, "bob", "a", True, 0, 100),
            (4, "ann", "b", False, 0, 100), (5, "ann", "a", True, 0, 100),
        )
        self.assertEqual([note[0] for note in keeper.live(0)], [2, 3, 4, 5])

    def test_a_run_out_note_gives_way_to_another_holder(self):
        keeper = keeper_with((1, "ann", "a", False, 0, 10))
        self.refused(InTheWay, keeper, 2, "bob", "a", False, 9, 5)
        keeper.take(2, "bob", "a", False, 10, 5)
        self.assertEqual(keeper.live(10), [(2, "bob", "a", False, 15)])

    def test_a_time_or_path_somewhat_beyond_its_bounds_is_not_refused(self):
        keeper = keeper_with((1, "ann", "a", False, 0, 1001), (2, "bob", "b/b/b/b/b", False, 0, 0))
        self.assertEqual(state(keeper, 0), (True, 2, [(1, "ann", "a", False, 1001)]))

    def test_a_lock_within_or_around_anothers_is_in_the_way(self):
        for lock in ["a", "a/b", "a/b/c"]:
            self.refused(InTheWay, keeper_with((1, "ann", "a/b", False, 0, 10)), 2, "bob", lock, True, 0, 5)

    def test_shared_notes_stand_side_by_side(self):
        keeper = keeper_with((1, "ann", "a", True, 0, 10), (2, "bob", "a/b", True, 0, 10))
        self.assertEqual([note[0] for note in keeper.live(0)], [1, 2])

    def test_it_takes_again_once_it_is_up(self):
        keeper = self.keeper(down=True)
        self.refused(Down, keeper, 7, "bob", "b", False, 1, 5)
        keeper.rise()
        keeper.take(7, "bob", "b", False, 1, 5)
        self.assertEqual(keeper.top, 7)


class Dropping(unittest.TestCase):
    NOTES = [(3, "ann", "a", False, 10), (5, "bob", "b", False, 20), (8, "ann", "c", True, 20)]

    def setUp(self):
        self.keeper = keeper_with(
            (3, "ann", "a", False, 0, 10), (5, "bob", "b", False, 0, 20), (8, "ann", "c", True, 0, 20),
        )

    def test_a_live_note_goes_and_the_others_and_the_top_stay(self):
        self.assertIs(self.keeper.drop(5, 1), True)
        self.assertEqual(state(self.keeper, 1), (True, 8, [self.NOTES[0], self.NOTES[2]]))
        self.assertIs(self.keeper.says_free("eve", "b", False, 1), True)

    def test_the_same_again_is_false(self):
        self.assertIs(self.keeper.drop(5, 1), True)
        self.assertIs(self.keeper.drop(5, 1), False)
        self.assertEqual(state(self.keeper, 1), (True, 8, [self.NOTES[0], self.NOTES[2]]))

    def test_the_note_of_the_top(self):
        self.assertIs(self.keeper.drop(8, 1), True)
        self.assertEqual(state(self.keeper, 1), (True, 8, self.NOTES[:2]))

    def test_a_number_that_it_never_had(self):
        for number in [-1, 0, 1, 4, 9, 999]:
            self.assertIs(self.keeper.drop(number, 1), False, number)
            self.assertEqual(state(self.keeper, 1), (True, 8, self.NOTES))

    def test_of_a_fresh_keeper(self):
        keeper = Keeper()
        self.assertIs(keeper.drop(1, 0), False)
        self.assertEqual(state(keeper), (True, 0, []))

    def test_one_tick_below_the_end_and_at_it(self):
        self.assertIs(self.keeper.drop(3, 9), True)
        self.assertIs(self.keeper.drop(8, 20), False)
        self.assertEqual(state(self.keeper, 20), (True, 8, []))

    def test_a_run_out_one(self):
        self.assertIs(self.keeper.drop(3, 10), False)
        self.assertEqual(state(self.keeper, 10), (True, 8, self.NOTES[1:]))

    def test_a_number_whose_note_went_when_the_lock_was_taken_again(self):
        self.keeper.take(9, "ann", "a", False, 1, 10)
        self.assertIs(self.keeper.drop(3, 1), False)
        self.assertEqual(state(self.keeper, 1), (True, 9, self.NOTES[1:] + [(9, "ann", "a", False, 11)]))

    def test_one_that_is_down_keeps_the_note(self):
        self.keeper.fall()
        self.assertIs(self.keeper.drop(5, 1), False)
        self.assertEqual(state(self.keeper, 1), (False, 8, self.NOTES))
        self.keeper.rise()
        self.assertEqual(state(self.keeper, 1), (True, 8, self.NOTES))
        self.assertIs(self.keeper.drop(5, 1), True)
        self.assertEqual(state(self.keeper, 1), (True, 8, [self.NOTES[0], self.NOTES[2]]))


if __name__ == "__main__":
    unittest.main()
