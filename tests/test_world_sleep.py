"""Points 5, 14, 16 and 24 to 28 in a world: writes, pauses and what a sleeper wakes to, falls and rises, ticks."""

import unittest

from fencegate.errors import Asleep, PausesSpent
from fencegate.world import World

from helpers import ask, done, everything, outcome, world_with

NAMES = ["ann", "bob", "cid"]
LOCKS = ["a", "a/x", "b", "c"]
SETUP = (3, NAMES, LOCKS, LOCKS, ["s", "t"])


class Writes(unittest.TestCase):
    def test_with_the_number_that_is_carried(self):
        world = world_with(SETUP, ask("ann", "a"), ask("ann", "b"))
        self.assertIs(world.write("ann", "b", "s", 7), True)
        self.assertIs(world.write("ann", "b", "s", 0), True)
        self.assertEqual(world.taken("s"), [(2, "ann", "b", 7), (2, "ann", "b", 0)])
        self.assertIs(world.write("ann", "a", "s", 5), False)
        self.assertIs(world.write("ann", "a", "t", 5), True)
        self.assertEqual(world.taken("s"), [(2, "ann", "b", 7), (2, "ann", "b", 0)])
        self.assertEqual(world.taken("t"), [(1, "ann", "a", 5)])

    def test_with_a_number_that_is_run_out(self):
        world = world_with(SETUP, ask("ann", "a", time=5), ask("bob", "a"), ("tick", 5))
        self.assertEqual(world.having("a"), [(2, "bob", False, 105, [1, 2, 3])])
        # The store has seen no greater number yet, so ann's is still taken.
        self.assertIs(world.write("ann", "a", "s", 1), True)
        self.assertIs(world.write("bob", "a", "s", 2), True)
        self.assertIs(world.write("ann", "a", "s", 3), False)
        self.assertIs(world.write("ann", "a", "s", 3), False)
        self.assertIs(world.write("ann", "a", "t", 4), True)
        self.assertEqual(world.taken("s"), [(1, "ann", "a", 1), (2, "bob", "a", 2)])

    def test_a_lock_given_anew_brings_a_new_number(self):
        world = world_with(SETUP, ask("ann", "a", time=2), ask("bob", "a", time=2), ("tick", 2),
                           ("write", "bob", "a", "s", 1))
        self.assertIs(world.write("ann", "a", "s", 2), False)
        done(world, ("tick", 2), ask("ann", "a"))
        self.assertIs(world.write("ann", "a", "s", 3), True)
        self.assertEqual(world.taken("s"), [(2, "bob", "a", 1), (3, "ann", "a", 3)])

    def test_one_that_waits_may_write(self):
        world = world_with(SETUP, ask("ann", "a"), ask("bob", "b"), ask("bob", "a"))
        self.assertIs(world.write("bob", "b", "s", 1), True)

    def test_with_no_majority_up(self):
        world = world_with(SETUP, ask("ann", "a"), ("fall", 1), ("fall", 2), ("fall", 3))
        self.assertIs(world.write("ann", "a", "s", 1), True)

    def test_the_greatest_value(self):
        world = world_with(SETUP, ask("ann", "a"))
        self.assertIs(world.write("ann", "a", "s", 999999999999), True)
        self.assertEqual(world.taken("s"), [(1, "ann", "a", 999999999999)])


class Sleepers(unittest.TestCase):
    def test_pause_and_wake(self):
        world = World(*SETUP)
        self.assertIs(world.pause("bob"), None)
        self.assertIs(world.pause("ann"), None)
        self.assertEqual(world.sleepers(), ["ann", "bob"])
        self.assertEqual(world.wake("bob"), [])
        self.assertEqual(world.sleepers(), ["ann"])
        self.assertEqual(world.wake("ann"), [])
        self.assertEqual(world.sleepers(), [])

    def test_sleepers_are_told_by_name(self):
        world = world_with(SETUP, ("pause", "cid"), ("pause", "ann"), ("pause", "bob"))
        self.assertEqual(world.sleepers(), ["ann", "bob", "cid"])

    def test_kept_until_the_end_then_run_out(self):
        for ticks, what in [(1, "kept"), (9, "kept"), (10, "run out"), (11, "run out"), (1000, "run out")]:
            world = world_with(SETUP, ask("ann", "a", time=10), ("pause", "ann"), ("tick", ticks))
            self.assertEqual(world.wake("ann"), [("a", 1, 10, what)])
            self.assertEqual(world.carried("ann"), [(1, "a", False, 10)])

    def test_run_out_whoever_has_it_now(self):
        world = world_with(SETUP, ask("ann", "a", time=10), ask("bob", "a"), ("pause", "ann"), ("tick", 10))
        self.assertEqual(world.wake("ann"), [("a", 1, 10, "run out")])

    def test_unsettled_with_no_majority_that_has_the_note(self):
        world = world_with(SETUP, ask("ann", "a", time=10), ("pause", "ann"), ("fall", 1))
        self.assertEqual(world.wake("ann"), [("a", 1, 10, "kept")])
        done(world, ("pause", "ann"), ("fall", 3), ("tick", 9))
        self.assertEqual(world.wake("ann"), [("a", 1, 10, "unsettled")])
        done(world, ("pause", "ann"), ("tick", 1))
        self.assertEqual(world.wake("ann"), [("a", 1, 10, "run out")])

    def test_unsettled_if_those_that_are_up_never_noted_it(self):
        world = world_with(SETUP, ("fall", 3), ask("ann", "a", time=10), ("rise", 3), ("fall", 1), ("pause", "ann"))
        self.assertEqual(world.wake("ann"), [("a", 1, 10, "unsettled")])

    def test_several_locks_by_number(self):
        world = world_with(SETUP, ask("ann", "c", time=3), ask("ann", "b", True, 9), ("fall", 2),
                           ask("ann", "a", time=9),
                           ("rise", 2), ("fall", 1), ("pause", "ann"), ("tick", 3))
        self.assertEqual(world.wake("ann"), [
            ("c", 1, 3, "run out"), ("b", 2, 9, "kept"), ("a", 3, 9, "unsettled"),
        ])

    def test_one_that_holds_nothing_by_the_number_of_another(self):
        # bob shares the lock by the word of all; ann's own number is known to keeper 1 alone.
        world = world_with(SETUP, ("fall", 2), ask("ann", "a", True), ("rise", 2), ask("bob", "a", True), ("fall", 3),
                           ("pause", "ann"), ("pause", "bob"))
        self.assertEqual(world.wake("ann"), [("a", 1, 100, "unsettled")])
        self.assertEqual(world.wake("bob"), [("a", 2, 100, "kept")])

    def test_what_was_given_in_ones_sleep(self):
        world = world_with(SETUP, ask("bob", "a", time=4), ask("ann", "a", time=4), ("pause", "ann"), ("tick", 5))
        self.assertEqual(world.wake("ann"), [("a", 2, 8, "kept")])

    def test_an_asking_outlasts_its_holders_sleep(self):
        world = world_with(SETUP, ask("bob", "a"), ask("ann", "a"), ("pause", "ann"))
        self.assertEqual(world.row(), [(0, "ann", "a", False, 100)])
        self.assertEqual(world.wake("ann"), [])
        self.assertEqual(world.row(), [(0, "ann", "a", False, 100)])

    def test_twenty_pauses_and_the_twenty_first(self):
        world = World(*SETUP)
        for time in range(20):
            holder = NAMES[time % 3]
            self.assertIs(world.pause(holder), None)
            world.wake(holder)
        for holder in NAMES:
            with self.assertRaises(PausesSpent):
                world.pause(holder)
        self.assertEqual(world.sleepers(), [])

    def test_a_pause_of_one_that_sleeps_when_twenty_have_been(self):
        world = World(*SETUP)
        for time in range(19):
            done(world, ("pause", "ann"), ("wake", "ann"))
        world.pause("ann")
        with self.assertRaises(Asleep):
            world.pause("ann")
        with self.assertRaises(PausesSpent):
            world.pause("bob")
        self.assertEqual(world.wake("ann"), [])


class FallsAndRises(unittest.TestCase):
    def test_what_is_told(self):
        world = World(*SETUP)
        told = done(world, ("rise", 2), ("fall", 2), ("fall", 2), ("rise", 2), ("rise", 2), ("fall", 1))
        self.assertEqual(told, [False, True, False, True, False, True])
        self.assertEqual(world.log(), [("fall", 0, 2), ("rise", 0, 2), ("fall", 0, 1)])
        self.assertEqual(world.ups(), [2, 3])

    def test_notes_are_told_of_those_that_are_down_too(self):
        world = world_with(SETUP, ask("ann", "a", time=10), ("fall", 2))
        self.assertEqual(world.notes(2), [(1, "ann", "a", False, 10)])
        world.tick(10)
        self.assertEqual([world.notes(keeper) for keeper in [1, 2, 3]], [[], [], []])


class Ticks(unittest.TestCase):
    STEPS = [ask("ann", "a", True, 5), ask("bob", "a", True, 7), ask("cid", "a", time=4), ask("ann", "b", time=9),
             ask("bob", "b", time=3)]

    def test_what_is_told(self):
        world = World(*SETUP)
        self.assertEqual([world.tick(1), world.now, world.tick(1000), world.now], [1, 1, 1001, 1001])

    def test_in_one_step_and_in_many(self):
        worlds = [world_with(SETUP, *self.STEPS) for ways in range(4)]
        worlds[0].tick(24)
        for tick in range(24):
            worlds[1].tick(1)
        done(worlds[2], ("tick", 11), ("tick", 13))
        done(worlds[3], ("tick", 5), ("tick", 2), ("tick", 17))
        told = [everything(world, SETUP) for world in worlds]
        self.assertEqual(told[1:], [told[0]] * 3)
        self.assertEqual([row[1] for row in told[0]["log"] if row[0] == "given"], [0, 0, 0, 7, 9])

    def test_the_row_is_settled_at_each_tick(self):
        world = world_with(SETUP, ask("ann", "a", time=1))
        for tick in range(1, 9):
            self.assertEqual(world.ask(["bob", "cid"][tick % 2], "a", False, 1)[0], "waits")
            world.tick(1)
            self.assertEqual(world.log()[-1][:2], ("given", tick))
        # The ends of what is given while the ticks of one step pass are seen in that step, too.
        world = world_with(SETUP, ask("ann", "a", time=1), ask("bob", "a", time=1), ask("cid", "a", time=1),
                           ("tick", 2))
        self.assertEqual([row[1] for row in world.log() if row[0] == "given"], [0, 1, 2])

    def test_notes_of_a_keeper_that_was_down_at_the_back_run_out(self):
        world = world_with(SETUP, ask("ann", "a", time=6), ("fall", 1), ("fall", 2), ("back", "ann", "a"), ("rise", 1),
                           ("rise", 2), ask("bob", "a"), ("tick", 5))
        self.assertEqual(outcome(world, ("waits_on", "bob")), "ann")
        world.tick(1)
        self.assertEqual(world.log()[-1][:3], ("given", 6, "bob"))


if __name__ == "__main__":
    unittest.main()
