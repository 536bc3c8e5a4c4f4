"""Point 29: the log, row by row; and point 1, of the lists that a world tells."""

import unittest

from fencegate.world import World

from helpers import ask, done, everything, outcome, world_with

SETUP = (3, ["ann", "bob", "cid"], ["a", "a/x", "b"], ["a"], ["s"])


class Rows(unittest.TestCase):
    def check(self, steps, rows):
        """That the last of the steps logs these rows, and nothing else."""
        world = world_with(SETUP, *steps[:-1])
        before = world.log()
        done(world, steps[-1])
        self.assertEqual(world.log(), before + rows)

    def test_ask_and_given(self):
        self.check([("tick", 4), ask("ann", "a", True, 6)], [
            ("ask", 4, "ann", "a", True, 6), ("given", 4, "ann", "a", True, 1, 10, (1, 2, 3)),
        ])
        self.check([("fall", 1), ask("ann", "a/x", False, 1)], [
            ("ask", 0, "ann", "a/x", False, 1), ("given", 0, "ann", "a/x", False, 1, 1, (2, 3)),
        ])

    def test_an_ask_that_waits(self):
        self.check([ask("ann", "a"), ("tick", 2), ask("bob", "a", False, 7)], [("ask", 2, "bob", "a", False, 7)])

    def test_an_ask_that_is_broken_off(self):
        self.check([ask("ann", "a"), ask("bob", "b"), ask("ann", "b"), ("tick", 3), ask("bob", "a/x", False, 7)], [
            ("ask", 3, "bob", "a/x", False, 7), ("broken", 3, "bob", "a/x", ("bob", "ann")),
        ])

    def test_back(self):
        self.check([ask("bob", "b"), ask("ann", "a"), ("tick", 3), ("back", "ann", "a")], [("back", 3, "ann", "a", 2)])
        self.check([ask("ann", "a", True, 3), ("tick", 3), ("back", "ann", "a")], [("back", 3, "ann", "a", 1)])

    def test_back_goes_ahead_of_what_is_then_given(self):
        self.check([ask("ann", "a"), ask("bob", "a/x", time=2), ask("cid", "a/x", time=2), ("back", "ann", "a")], [
            ("back", 0, "ann", "a", 1), ("given", 0, "bob", "a/x", False, 2, 2, (1, 2, 3)),
        ])

    def test_taken_and_stale(self):
        start = [ask("ann", "a"), ask("ann", "b"), ("tick", 2)]
        self.check(start + [("write", "ann", "b", "s", 8)], [("taken", 2, "ann", "b", 2, "s", 8)])
        start += [("write", "ann", "b", "s", 8), ("tick", 1)]
        self.check(start + [("write", "ann", "a", "s", 9)], [("stale", 3, "ann", "a", 1, "s", 9, 2)])

    def test_pause_and_wake(self):
        self.check([("tick", 2), ("pause", "ann")], [("pause", 2, "ann")])
        start = [("tick", 2), ("pause", "ann"), ("tick", 1), ("pause", "bob"), ("tick", 4)]
        self.check(start + [("wake", "ann")], [("wake", 7, "ann", 2)])
        self.check(start + [("wake", "bob")], [("wake", 7, "bob", 3)])
        self.check(start + [("wake", "ann"), ("pause", "ann"), ("wake", "ann")], [("wake", 7, "ann", 7)])

    def test_fall_and_rise(self):
        self.check([("tick", 2), ("fall", 3)], [("fall", 2, 3)])
        self.check([("fall", 3), ("tick", 2), ("rise", 3)], [("rise", 2, 3)])
        self.check([("fall", 3), ("fall", 3)], [])
        self.check([("rise", 3)], [])

    def test_rise_goes_ahead_of_what_is_then_given(self):
        self.check([("fall", 1), ("fall", 2), ask("bob", "b", time=3), ask("ann", "a", time=2), ("rise", 2)], [
            ("rise", 0, 2), ("given", 0, "ann", "a", False, 1, 2, (2, 3)),
            ("given", 0, "bob", "b", False, 2, 3, (2, 3)),
        ])

    def test_ticks_log_what_comes_of_them_at_its_tick(self):
        self.check([("tick", 5)], [])
        self.check([ask("ann", "a", time=3), ask("bob", "a", time=2), ask("cid", "a", time=2), ("tick", 9)], [
            ("given", 3, "bob", "a", False, 2, 5, (1, 2, 3)), ("given", 5, "cid", "a", False, 3, 7, (1, 2, 3)),
        ])

    def test_nothing_is_logged_of_what_is_only_asked(self):
        world = world_with(SETUP, ask("ann", "a"), ask("bob", "a"), ("pause", "bob"))
        before = world.log()
        everything(world, SETUP)
        self.assertEqual(world.log(), before)

    def test_nothing_is_logged_of_what_is_refused(self):
        world = world_with(SETUP, ask("ann", "a"), ask("bob", "a"), ("pause", "bob"))
        before = world.log()
        for step in [ask("ann", "a"), ask("cid", "b", True), ("back", "cid", "a"), ("write", "bob", "a", "s", 1),
                     ("pause", "bob"), ("wake", "ann"), ("fall", 4), ("rise", 0), ("tick", 0)]:
            self.assertIsInstance(outcome(world, step), type)
        self.assertEqual(world.log(), before)

    def test_a_whole_log(self):
        world = world_with(
            SETUP, ask("ann", "a", time=4), ask("bob", "a", time=9), ("pause", "ann"), ("tick", 5),
            ("write", "bob", "a", "s", 1), ("wake", "ann"), ("write", "ann", "a", "s", 2), ("fall", 1),
            ("back", "bob", "a"), ("rise", 1),
        )
        self.assertEqual(world.log(), [
            ("ask", 0, "ann", "a", False, 4),
            ("given", 0, "ann", "a", False, 1, 4, (1, 2, 3)),
            ("ask", 0, "bob", "a", False, 9),
            ("pause", 0, "ann"),
            ("given", 4, "bob", "a", False, 2, 13, (1, 2, 3)),
            ("taken", 5, "bob", "a", 2, "s", 1),
            ("wake", 5, "ann", 0),
            ("stale", 5, "ann", "a", 1, "s", 2, 2),
            ("fall", 5, 1),
            ("back", 5, "bob", "a", 2),
            ("rise", 5, 1),
        ])

    def test_the_kinds_of_what_is_logged(self):
        world = world_with(SETUP, ask("ann", "a", True), ask("bob", "b"), ask("bob", "a"), ask("ann", "b"))
        self.assertIs(type(world.log()), list)
        for row in world.log():
            self.assertIs(type(row), tuple)
        given = [row for row in world.log() if row[0] == "given"][0]
        broken = [row for row in world.log() if row[0] == "broken"][0]
        self.assertEqual([type(part) for part in given], [str, int, str, str, bool, int, int, tuple])
        self.assertEqual([type(part) for part in broken], [str, int, str, str, tuple])


class ListsTold(unittest.TestCase):
    def world(self):
        return world_with(SETUP, ask("ann", "a"), ask("bob", "b"), ask("ann", "b"), ("write", "bob", "b", "s", 3),
                          ("pause", "ann"), ask("cid", "a"), ("fall", 3))

    def test_whoever_changes_one_changes_nothing_else(self):
        world = self.world()
        before = everything(world, SETUP)
        for step in [("carried", "ann"), ("row",), ("chain", "ann"), ("having", "a"), ("free_by", "a"), ("notes", 1),
                     ("ups",), ("sleepers",), ("taken", "s"), ("log",)]:
            told = done(world, step)[0]
            self.assertIs(type(told), list)
            told.clear()
            told.append("gone")
            self.assertEqual(everything(world, SETUP), before, step)
        world.having("a")[0][4].append(9)
        self.assertEqual(everything(world, SETUP), before)

    def test_lists_within_what_ask_back_and_wake_tell(self):
        world = self.world()
        chain = world.ask("bob", "a/x", False, 5)
        self.assertEqual(chain, ("broken", ["bob", "ann"]))
        before = everything(world, SETUP)
        chain[1].append("gone")
        self.assertEqual(everything(world, SETUP), before)
        world = world_with(SETUP, ask("ann", "a"))
        waits = world.ask("bob", "a", False, 5)
        before = everything(world, SETUP)
        waits[1].clear()
        self.assertEqual(everything(world, SETUP), before)
        droppers = world.back("ann", "a")
        world.pause("bob")
        before = everything(world, SETUP)
        droppers.clear()
        self.assertEqual(everything(world, SETUP), before)
        world.wake("bob").clear()
        self.assertEqual(world.carried("bob"), [(2, "a", False, 5)])

    def test_a_log_that_was_told_does_not_grow(self):
        world = World(*SETUP)
        early = world.log()
        row = world.row()
        done(world, ask("ann", "a"), ask("bob", "a"))
        self.assertEqual((early, row), ([], []))


if __name__ == "__main__":
    unittest.main()
