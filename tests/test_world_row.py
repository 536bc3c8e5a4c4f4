"""Points 3, 4, 12, 13 and 18 to 23 in a world: what is given and when, who waits on whom, and rings."""

import unittest

from fencegate.world import World

from helpers import ask, done, everything, world_with

NAMES = ["ann", "bob", "cid", "dan", "eve", "fay"]
LOCKS = ["a", "a/x", "a/x/q", "a/y", "ab", "b", "c"]
SETUP = (3, NAMES, LOCKS, LOCKS, ["s"])
LONE = (1, NAMES, LOCKS, LOCKS, ["s"])


class GivenAtOnce(unittest.TestCase):
    def test_a_free_lock(self):
        world = World(*SETUP)
        self.assertEqual(world.ask("ann", "a", False, 10), ("given", 1, 10))
        self.assertEqual(world.carried("ann"), [(1, "a", False, 10)])
        self.assertEqual(world.row(), [])
        for keeper in [1, 2, 3]:
            self.assertEqual(world.notes(keeper), [(1, "ann", "a", False, 10)])
        self.assertEqual(world.having("a"), [(1, "ann", False, 10, [1, 2, 3])])
        self.assertEqual((world.free_by("a"), world.free_by("a/x"), world.free_by("b")), ([], [], [1, 2, 3]))

    def test_numbers_rise_over_all_locks(self):
        told = done(World(*SETUP), ask("ann", "b"), ask("bob", "a"), ("back", "ann", "b"), ask("cid", "b"))
        self.assertEqual(told, [("given", 1, 100), ("given", 2, 100), [1, 2, 3], ("given", 3, 100)])

    def test_the_end_is_counted_from_the_present_tick(self):
        self.assertEqual(done(World(*SETUP), ("tick", 7), ask("ann", "a", time=1)), [7, ("given", 1, 8)])
        self.assertEqual(done(World(*SETUP), ("tick", 7), ask("ann", "a", time=1000)), [7, ("given", 1, 1007)])

    def test_shared_askings_stand_side_by_side(self):
        world = world_with(SETUP, ask("ann", "a", True, 9), ask("bob", "a", True, 5), ask("cid", "a/x", True, 7))
        self.assertEqual(world.row(), [])
        self.assertEqual(world.having("a"), [(1, "ann", True, 9, [1, 2, 3]), (2, "bob", True, 5, [1, 2, 3])])
        self.assertEqual(world.having("a/x"), [(3, "cid", True, 7, [1, 2, 3])])
        self.assertEqual(world.ask("dan", "a", False, 5), ("waits", ["dan", "ann"]))

    def test_locks_that_are_on_no_line(self):
        told = done(World(*SETUP), ask("ann", "a/x"), ask("bob", "a/y"), ask("cid", "ab"), ask("dan", "b"))
        self.assertEqual([one[0] for one in told], ["given"] * 4)

    def test_locks_within_one_another(self):
        for first, second in [("a", "a/x"), ("a/x", "a"), ("a/x/q", "a"), ("a", "a/x/q")]:
            for shared in [(False, False), (False, True), (True, False)]:
                told = done(World(*SETUP), ask("ann", first, shared[0]), ask("bob", second, shared[1]))
                self.assertEqual(told[1], ("waits", ["bob", "ann"]))

    def test_ones_own_holdings_are_not_in_ones_way(self):
        world = world_with(SETUP, ask("ann", "a", time=9), ask("ann", "a/x", time=5), ask("ann", "a/x/q", True, 3))
        self.assertEqual(world.carried("ann"), [(1, "a", False, 9), (2, "a/x", False, 5), (3, "a/x/q", True, 3)])

    def test_by_a_bare_majority(self):
        world = world_with(SETUP, ("fall", 2), ask("ann", "a", time=9))
        self.assertEqual(world.log()[-1], ("given", 0, "ann", "a", False, 1, 9, (1, 3)))
        self.assertEqual(world.notes(2), [])
        self.assertEqual(world_with(SETUP, ("fall", 2), ("fall", 1)).ask("ann", "a", False, 9), ("waits", ["ann"]))

    def test_again_behind_ones_end(self):
        world = world_with(SETUP, ask("ann", "a", time=4), ("tick", 4))
        self.assertEqual(world.carried("ann"), [(1, "a", False, 4)])
        self.assertEqual(world.ask("ann", "a", True, 3), ("given", 2, 7))
        self.assertEqual(world.carried("ann"), [(2, "a", True, 7)])


class GivenLater(unittest.TestCase):
    def test_at_the_very_tick_at_which_the_one_ahead_runs_out(self):
        world = world_with(SETUP, ask("ann", "a", time=10), ("tick", 2))
        self.assertEqual(world.ask("bob", "a", False, 5), ("waits", ["bob", "ann"]))
        self.assertEqual(world.row(), [(2, "bob", "a", False, 5)])
        world.tick(7)
        self.assertEqual((world.now, world.row()), (9, [(2, "bob", "a", False, 5)]))
        world.tick(1)
        self.assertEqual((world.now, world.row()), (10, []))
        self.assertEqual(world.log()[-1], ("given", 10, "bob", "a", False, 2, 15, (1, 2, 3)))
        self.assertEqual(world.carried("ann"), [(1, "a", False, 10)])

    def test_within_one_step_of_many_ticks(self):
        world = world_with(SETUP, ask("ann", "a", time=3), ask("bob", "a", time=4), ask("cid", "a", time=5))
        self.assertEqual(world.tick(1000), 1000)
        self.assertEqual([row[1:3] for row in world.log() if row[0] == "given"], [(0, "ann"), (3, "bob"), (7, "cid")])
        self.assertEqual(world.carried("cid"), [(3, "a", False, 12)])

    def test_behind_a_back(self):
        world = world_with(SETUP, ask("ann", "a"), ("tick", 1), ask("bob", "a/x"), ("tick", 2))
        self.assertEqual(world.back("ann", "a"), [1, 2, 3])
        self.assertEqual(world.log()[-2:], [
            ("back", 3, "ann", "a", 1), ("given", 3, "bob", "a/x", False, 2, 103, (1, 2, 3)),
        ])
        self.assertEqual((world.carried("ann"), world.carried("bob")), ([], [(2, "a/x", False, 103)]))

    def test_behind_a_rise(self):
        world = world_with(SETUP, ("fall", 1), ("fall", 2), ask("bob", "a"), ask("ann", "b"), ("tick", 1))
        self.assertEqual((world.waits_on("ann"), world.waits_on("bob")), ("", ""))
        world.rise(1)
        self.assertEqual(world.log()[-3:], [
            ("rise", 1, 1),
            ("given", 1, "ann", "b", False, 1, 101, (1, 3)),
            ("given", 1, "bob", "a", False, 2, 101, (1, 3)),
        ])

    def test_behind_a_fall(self):
        # A fall frees nothing, but it may close a ring; what waited on the one that is broken off is then given.
        world = world_with(SETUP, *CLOSED_BY_A_FALL, ask("eve", "a/y", time=6))
        self.assertEqual(world.chain("eve"), ["eve", "dan", "cid"])
        self.assertIs(world.fall(2), True)
        self.assertEqual(world.log()[-3:], [
            ("fall", 0, 2),
            ("broken", 0, "dan", "a", ("dan", "ann")),
            ("given", 0, "eve", "a/y", False, 4, 6, (1, 3)),
        ])

    def test_one_that_sleeps_is_given_too(self):
        world = world_with(SETUP, ask("ann", "a", time=5), ask("bob", "a", time=3), ("pause", "bob"), ("tick", 6))
        self.assertEqual(world.sleepers(), ["bob"])
        self.assertEqual(world.carried("bob"), [(2, "a", False, 8)])
        self.assertEqual(world.log()[-1], ("given", 5, "bob", "a", False, 2, 8, (1, 2, 3)))

    def test_one_whose_lock_ran_out_waits_for_it_again(self):
        # bob's note of `a` goes as he is given it anew, and so does what he carried of it.
        world = world_with(SETUP, ask("bob", "a", time=2), ask("ann", "a", time=4), ("tick", 3),
                           ask("bob", "a", time=9))
        self.assertEqual(world.carried("bob"), [(1, "a", False, 2)])
        world.tick(3)
        self.assertEqual(world.carried("bob"), [(3, "a", False, 15)])

    def test_what_others_carry_is_not_touched(self):
        world = world_with(SETUP, ask("ann", "a", time=2), ask("bob", "a"), ("tick", 2))
        self.assertEqual(world.back("ann", "a"), [])
        self.assertEqual(world.carried("bob"), [(2, "a", False, 102)])
        self.assertEqual(world.having("a"), [(2, "bob", False, 102, [1, 2, 3])])

    def test_a_back_of_what_is_run_out_tells_none(self):
        world = world_with(SETUP, ask("ann", "a", time=5), ("tick", 4))
        self.assertEqual(world.back("ann", "a"), [1, 2, 3])
        world = world_with(SETUP, ask("ann", "a", time=5), ("tick", 5))
        self.assertEqual(world.back("ann", "a"), [])
        self.assertEqual((world.carried("ann"), world.log()[-1]), ([], ("back", 5, "ann", "a", 1)))

    def test_a_keeper_that_is_down_while_a_lock_is_given_back(self):
        world = world_with(SETUP, ask("ann", "a", time=50), ("fall", 2), ("fall", 3))
        self.assertEqual(world.back("ann", "a"), [1])
        self.assertEqual(world.ask("bob", "a", False, 5), ("waits", ["bob"]))
        world.rise(3)
        # Keepers 2 and 3 never learnt of it: of those that are up, one says free, and one names ann.
        self.assertEqual(world.chain("bob"), ["bob", "ann"])
        world.rise(2)
        self.assertEqual(world.having("a"), [(1, "ann", False, 50, [2, 3])])
        self.assertEqual(world.carried("ann"), [])
        world.tick(49)
        self.assertEqual(len(world.row()), 1)
        world.tick(1)
        self.assertEqual(world.log()[-1], ("given", 50, "bob", "a", False, 2, 55, (1, 2, 3)))

    def test_ones_own_forgotten_note_is_not_in_ones_way(self):
        world = world_with(SETUP, ask("ann", "a", time=50), ("fall", 3), ("back", "ann", "a"), ("rise", 3))
        self.assertEqual(world.ask("ann", "a", False, 5), ("given", 2, 5))
        self.assertEqual(world.notes(3), [(2, "ann", "a", False, 5)])

    def test_two_backs_of_one_lock_by_two_shared_holders(self):
        world = world_with(SETUP, ask("ann", "a", True), ask("bob", "a", True), ask("cid", "a"))
        world.back("ann", "a")
        self.assertEqual(world.chain("cid"), ["cid", "bob"])
        world.back("bob", "a")
        self.assertEqual(world.carried("cid"), [(3, "a", False, 100)])


class TheOrderOfTheRow(unittest.TestCase):
    def test_by_tick_then_by_name(self):
        world = world_with(SETUP, ask("fay", "a"), ask("dan", "a"), ask("bob", "a"), ("tick", 1), ask("cid", "a"),
                           ask("ann", "a"))
        self.assertEqual([asking[:2] for asking in world.row()], [
            (0, "bob"), (0, "dan"), (1, "ann"), (1, "cid"),
        ])

    def test_none_is_given_ahead_of_one_that_stands_ahead_and_in_its_way(self):
        world = world_with(SETUP, ask("ann", "a/x", time=9), ("tick", 1), ask("cid", "a", time=5), ("tick", 1))
        self.assertEqual(world.ask("bob", "a/y", False, 5), ("waits", ["bob", "cid", "ann"]))
        self.assertEqual(world.ask("dan", "b", False, 5), ("given", 2, 7))
        world.tick(7)
        self.assertEqual(world.log()[-1], ("given", 9, "cid", "a", False, 3, 14, (1, 2, 3)))
        world.tick(5)
        self.assertEqual(world.log()[-1], ("given", 14, "bob", "a/y", False, 4, 19, (1, 2, 3)))

    def test_one_that_asks_at_the_same_tick_with_a_lesser_name_goes_ahead(self):
        world = world_with(SETUP, ask("fay", "a/x"), ask("cid", "a"))
        self.assertEqual(world.ask("bob", "a/y", False, 5), ("given", 2, 5))

    def test_shared_askings_don_t_pass_one_alone(self):
        world = world_with(SETUP, ask("ann", "a", True, 5), ("tick", 1), ask("cid", "a"), ("tick", 1))
        self.assertEqual(world.ask("bob", "a", True, 5), ("waits", ["bob", "cid", "ann"]))

    def test_shared_askings_are_given_together(self):
        world = world_with(SETUP, ask("ann", "a", time=5), ask("cid", "a/x", True), ask("bob", "a", True))
        self.assertEqual((world.waits_on("bob"), world.waits_on("cid")), ("ann", "ann"))
        world.tick(5)
        self.assertEqual([row[1:6] for row in world.log()[-2:]], [
            (5, "bob", "a", True, 2), (5, "cid", "a/x", True, 3),
        ])

    def test_the_first_of_several_is_given_first(self):
        world = world_with(SETUP, ("fall", 1), ("fall", 2), ask("dan", "b"), ask("bob", "a"), ask("cid", "a/x"),
                           ask("ann", "c"), ("rise", 2))
        given = [row[2:4] + (row[5],) for row in world.log() if row[0] == "given"]
        self.assertEqual(given, [("ann", "c", 1), ("bob", "a", 2), ("dan", "b", 3)])
        self.assertEqual(world.row(), [(0, "cid", "a/x", False, 100)])


class WhomAnAskingWaitsOn(unittest.TestCase):
    def test_one_with_no_asking_waits_on_nobody(self):
        world = world_with(SETUP, ask("ann", "a"), ask("bob", "a"))
        self.assertEqual((world.waits_on("ann"), world.waits_on("cid")), ("", ""))
        self.assertEqual((world.chain("ann"), world.chain("cid")), (["ann"], ["cid"]))

    def test_the_one_that_has_it(self):
        world = world_with(SETUP, ask("fay", "a/x/q"), ask("bob", "a"))
        self.assertEqual(world.waits_on("bob"), "fay")

    def test_the_first_by_name_among_equals(self):
        world = world_with(SETUP, ask("fay", "a", True), ask("cid", "a", True), ask("dan", "a/x", True),
                           ask("bob", "a"))
        self.assertEqual(world.waits_on("bob"), "cid")

    def test_one_whom_more_keepers_name(self):
        # bob's note lies at keeper 1 alone, cid's at 2 and 3: two keepers name cid.
        world = world_with(SETUP, ask("bob", "a"), ("fall", 1), ("back", "bob", "a"), ask("cid", "a"), ("rise", 1))
        self.assertEqual(world.ask("dan", "a", False, 5), ("waits", ["dan", "cid"]))
        world.fall(3)
        self.assertEqual(world.waits_on("dan"), "bob")
        world.fall(1)
        self.assertEqual(world.waits_on("dan"), "cid")
        world.fall(2)
        self.assertEqual(world.waits_on("dan"), "")

    def test_a_keeper_names_a_holder_once(self):
        world = world_with(LONE, ask("bob", "a", True), ask("cid", "a/x", True), ask("cid", "a/y", True),
                           ask("dan", "a"))
        self.assertEqual(world.waits_on("dan"), "bob")

    def test_only_what_is_in_the_way_is_named(self):
        world = world_with(SETUP, ask("ann", "a", True), ask("fay", "b"), ask("cid", "ab"), ask("dan", "a/x", True),
                           ask("eve", "a/x"))
        self.assertEqual(world.waits_on("eve"), "ann")
        world.back("ann", "a")
        self.assertEqual(world.waits_on("eve"), "dan")

    def test_the_holder_ahead_if_the_asking_is_free(self):
        world = world_with(SETUP, ask("ann", "a/x"), ask("bob", "a"), ask("dan", "a/y", True), ask("eve", "a/y"))
        # dan and eve are free, and both stand behind bob, who is the first in eve's way.
        self.assertEqual((world.waits_on("dan"), world.waits_on("eve")), ("bob", "bob"))
        self.assertEqual(world.chain("eve"), ["eve", "bob", "ann"])

    def test_the_holder_ahead_if_no_keeper_names_anybody(self):
        world = world_with(SETUP, ("fall", 1), ("fall", 2), ask("bob", "a"), ask("cid", "a/x"), ask("dan", "a/x/q"),
                           ask("eve", "b"))
        told = [world.waits_on(name) for name in NAMES]
        self.assertEqual(told, ["", "", "bob", "bob", "", ""])

    def test_a_name_that_a_keeper_gives_goes_ahead_of_the_row(self):
        # With too few keepers up, the asking is not free, though the one that is up names fay alone.
        world = world_with(SETUP, ask("fay", "a/x"), ("fall", 1), ("fall", 2), ask("bob", "a/y"), ask("cid", "a"))
        self.assertEqual((world.waits_on("bob"), world.waits_on("cid")), ("", "fay"))

    def test_free_by_a_majority_though_one_keeper_names_somebody(self):
        world = world_with(SETUP, ask("bob", "a/x"), ("fall", 1), ("back", "bob", "a/x"), ask("fay", "a/y"),
                           ("rise", 1), ask("cid", "a"), ("tick", 1), ask("dan", "a/x"))
        # Keeper 1 still has bob's note, but 2 and 3 say that dan's asking is free: so it waits on cid, who is ahead.
        self.assertEqual(world.chain("dan"), ["dan", "cid", "fay"])

    def test_a_note_that_is_run_out_names_nobody(self):
        world = world_with(SETUP, ask("ann", "a", True, 3), ask("bob", "a", True, 9), ask("cid", "a"), ("tick", 2))
        self.assertEqual(world.waits_on("cid"), "ann")
        world.tick(1)
        self.assertEqual(world.waits_on("cid"), "bob")

    def test_chains_go_from_asker_to_asker(self):
        world = world_with(SETUP, ask("ann", "a"), ask("bob", "b"), ask("cid", "c"), ask("bob", "a"), ask("cid", "b"),
                           ask("dan", "c"))
        self.assertEqual(world.chain("dan"), ["dan", "cid", "bob", "ann"])
        self.assertEqual(world.chain("cid"), ["cid", "bob", "ann"])


# dan has `b`, which ann waits for. Of `a/x`, keeper 1 has a note of ann's, and 2 and 3 have one of cid's: dan, who asks
# for `a`, waits on cid. With keeper 2 down, ann and cid are named once each, and ann is the first by name.
CLOSED_BY_A_FALL = [
    ask("dan", "b"), ask("ann", "a/x"), ("fall", 1), ("back", "ann", "a/x"), ask("cid", "a/x"), ask("ann", "b"),
    ("rise", 1), ask("dan", "a"),
]


class Rings(unittest.TestCase):
    def test_of_two_behind_an_ask(self):
        world = world_with(SETUP, ask("ann", "a"), ask("bob", "b"), ask("ann", "b"))
        self.assertEqual(world.ask("bob", "a", False, 5), ("broken", ["bob", "ann"]))
        self.assertEqual(world.row(), [(0, "ann", "b", False, 100)])
        self.assertEqual(world.log()[-2:], [
            ("ask", 0, "bob", "a", False, 5), ("broken", 0, "bob", "a", ("bob", "ann")),
        ])

    def test_nothing_but_the_asking_goes(self):
        world = world_with(SETUP, ask("ann", "a"), ask("bob", "b"), ask("ann", "b"))
        before = everything(world, SETUP)
        world.ask("bob", "a", False, 5)
        behind = everything(world, SETUP)
        for name in before:
            if name != "log":
                self.assertEqual(behind[name], before[name])

    def test_the_last_in_the_row_is_broken_off_not_the_last_that_asked(self):
        world = world_with(SETUP, ask("ann", "a"), ask("bob", "b"), ask("bob", "a"))
        self.assertEqual(world.ask("ann", "b", False, 5), ("waits", ["ann", "bob"]))
        self.assertEqual(world.log()[-1], ("broken", 0, "bob", "a", ("bob", "ann")))
        self.assertEqual(world.row(), [(0, "ann", "b", False, 5)])

    def test_the_later_tick_is_last(self):
        world = world_with(SETUP, ask("ann", "a"), ask("bob", "b"), ask("bob", "a"), ("tick", 1))
        self.assertEqual(world.ask("ann", "b", False, 5), ("broken", ["ann", "bob"]))
        self.assertEqual(world.row(), [(0, "bob", "a", False, 100)])

    def test_of_three(self):
        world = world_with(SETUP, ask("ann", "a"), ask("bob", "b"), ask("cid", "c"), ask("ann", "b"), ask("bob", "c"))
        self.assertEqual(world.chain("ann"), ["ann", "bob", "cid"])
        self.assertEqual(world.ask("cid", "a", False, 5), ("broken", ["cid", "ann", "bob"]))
        self.assertEqual(world.row(), [(0, "ann", "b", False, 100), (0, "bob", "c", False, 100)])

    def test_of_three_broken_at_one_in_its_middle(self):
        world = world_with(SETUP, ask("ann", "a"), ask("bob", "b"), ask("cid", "c"), ask("cid", "b"), ask("bob", "a"),
                           ("tick", 1))
        self.assertEqual(world.ask("ann", "c", False, 5), ("broken", ["ann", "cid", "bob"]))
        world = world_with(SETUP, ask("ann", "a"), ask("bob", "b"), ask("cid", "c"), ask("cid", "b"), ask("bob", "a"))
        self.assertEqual(world.ask("ann", "c", False, 5), ("waits", ["ann", "cid"]))
        self.assertEqual(world.log()[-1], ("broken", 0, "cid", "b", ("cid", "bob", "ann")))

    def test_who_leads_into_a_ring_is_not_broken_off(self):
        world = world_with(SETUP, ask("ann", "a"), ask("bob", "b"), ask("ann", "b"), ask("fay", "b"))
        self.assertEqual(world.ask("bob", "a", False, 5), ("broken", ["bob", "ann"]))
        self.assertEqual([asking[1] for asking in world.row()], ["ann", "fay"])

    def test_with_one_that_stands_ahead_in_the_row(self):
        # ann's own lock is not in her way, but bob's asking, which waits on ann, is.
        world = world_with(SETUP, ask("ann", "a"), ("tick", 1), ask("bob", "a"), ("tick", 1))
        self.assertEqual(world.ask("ann", "a/x", False, 5), ("broken", ["ann", "bob"]))
        # At one tick she stands ahead of him by name, and there is no ring.
        world = world_with(SETUP, ask("ann", "a"), ask("bob", "a"))
        self.assertEqual(world.ask("ann", "a/x", False, 5), ("given", 2, 5))

    def test_a_sleeper_is_broken_off_too(self):
        world = world_with(SETUP, ask("ann", "a"), ask("bob", "b"), ask("bob", "a"), ("pause", "bob"), ask("ann", "b"))
        self.assertEqual(world.log()[-1], ("broken", 0, "bob", "a", ("bob", "ann")))

    def test_what_waited_behind_it_is_given(self):
        world = world_with(LONE, ask("ann", "a/x"), ask("bob", "b"), ask("bob", "a"), ask("cid", "a/y", time=7))
        self.assertEqual(world.chain("cid"), ["cid", "bob", "ann"])
        self.assertEqual(world.ask("ann", "b", False, 5), ("waits", ["ann", "bob"]))
        self.assertEqual(world.log()[-2:], [
            ("broken", 0, "bob", "a", ("bob", "ann")), ("given", 0, "cid", "a/y", False, 3, 7, (1,)),
        ])

    def test_behind_a_back(self):
        # ann waits on bob, the first by name of those who share `a`; when he gives it back she waits on cid.
        world = world_with(SETUP, ask("ann", "b"), ask("bob", "a", True), ask("cid", "a", True), ask("ann", "a"),
                           ask("cid", "b"))
        self.assertEqual(world.chain("cid"), ["cid", "ann", "bob"])
        self.assertEqual(world.back("bob", "a"), [1, 2, 3])
        self.assertEqual(world.log()[-2:], [
            ("back", 0, "bob", "a", 2), ("broken", 0, "cid", "b", ("cid", "ann")),
        ])

    def test_behind_a_tick(self):
        world = world_with(SETUP, ask("ann", "b"), ask("bob", "a", True, 5), ask("cid", "a", True), ask("ann", "a"),
                           ask("cid", "b"), ("tick", 4))
        self.assertEqual(world.chain("cid"), ["cid", "ann", "bob"])
        self.assertEqual(world.tick(3), 7)
        self.assertEqual(world.log()[-1], ("broken", 5, "cid", "b", ("cid", "ann")))

    def test_behind_a_fall(self):
        world = world_with(SETUP, *CLOSED_BY_A_FALL)
        self.assertEqual(world.chain("dan"), ["dan", "cid"])
        self.assertIs(world.fall(2), True)
        self.assertEqual(world.log()[-2:], [("fall", 0, 2), ("broken", 0, "dan", "a", ("dan", "ann"))])
        self.assertEqual(world.row(), [(0, "ann", "b", False, 100)])

    def test_behind_a_rise(self):
        # With the keeper down nobody is named, and nobody waits; its notes are told again when it rises.
        world = world_with(LONE, ask("ann", "a"), ask("bob", "b"), ("fall", 1), ask("ann", "b"), ask("bob", "a"))
        self.assertEqual((world.chain("ann"), world.chain("bob")), (["ann"], ["bob"]))
        self.assertIs(world.rise(1), True)
        self.assertEqual(world.log()[-2:], [("rise", 0, 1), ("broken", 0, "bob", "a", ("bob", "ann"))])

    def test_two_rings_at_once(self):
        setup = (1, NAMES, ["a", "b", "c", "d"], [], [])
        for order, broken in [("abcd", ["dan", "bob"]), ("acdb", ["dan", "bob"]), ("dcba", ["dan", "bob"])]:
            wishes = {"a": ask("ann", "b"), "b": ask("bob", "a"), "c": ask("cid", "d"), "d": ask("dan", "c")}
            world = world_with(setup, ask("ann", "a"), ask("bob", "b"), ask("cid", "c"), ask("dan", "d"), ("fall", 1))
            done(world, *[wishes[sign] for sign in order])
            self.assertEqual(len(world.row()), 4)
            world.rise(1)
            rows = [row for row in world.log() if row[0] == "broken"]
            self.assertEqual([row[2] for row in rows], broken)
            self.assertEqual([row[4] for row in rows], [("dan", "cid"), ("bob", "ann")])
            self.assertEqual([asking[1] for asking in world.row()], ["ann", "cid"])

    def test_of_two_rings_the_one_with_the_last_in_the_row_goes_first(self):
        setup = (1, NAMES, ["a", "b", "c", "d"], [], [])
        world = world_with(setup, ask("ann", "a"), ask("bob", "b"), ask("cid", "c"), ask("dan", "d"), ("fall", 1),
                           ask("cid", "d"), ask("dan", "c"), ask("ann", "b"), ("tick", 1), ask("bob", "a"), ("rise", 1))
        rows = [row for row in world.log() if row[0] == "broken"]
        self.assertEqual(rows, [("broken", 1, "bob", "a", ("bob", "ann")), ("broken", 1, "dan", "c", ("dan", "cid"))])

    def test_giving_goes_ahead_of_breaking(self):
        # Both are due behind the rise: eve's asking is given first, then the ring is broken.
        world = world_with(LONE, ask("ann", "a"), ask("bob", "b"), ("fall", 1), ask("ann", "b"), ask("bob", "a"),
                           ask("eve", "c", time=6), ("rise", 1))
        self.assertEqual(world.log()[-3:], [
            ("rise", 0, 1), ("given", 0, "eve", "c", False, 3, 6, (1,)), ("broken", 0, "bob", "a", ("bob", "ann")),
        ])

    def test_what_is_given_between_two_rings_comes_between_them(self):
        setup = (1, NAMES, ["a", "a/x", "a/y", "b", "c", "d"], [], [])
        world = world_with(setup, ask("cid", "a/x"), ask("dan", "b"), ask("ann", "c"), ask("bob", "d"), ("fall", 1),
                           ask("dan", "a"), ask("cid", "b"), ask("ann", "d"), ask("bob", "c"),
                           ask("fay", "a/y", time=6),
                           ("rise", 1))
        self.assertEqual(world.log()[-3:], [
            ("broken", 0, "dan", "a", ("dan", "cid")),
            ("given", 0, "fay", "a/y", False, 5, 6, (1,)),
            ("broken", 0, "bob", "c", ("bob", "ann")),
        ])

    def test_one_that_was_broken_off_may_ask_again(self):
        world = world_with(SETUP, ask("ann", "a"), ask("bob", "b"), ask("ann", "b"), ask("bob", "a"))
        self.assertEqual(world.back("bob", "b"), [1, 2, 3])
        self.assertEqual(world.carried("ann"), [(1, "a", False, 100), (3, "b", False, 100)])
        self.assertEqual(world.ask("bob", "b", False, 5), ("waits", ["bob", "ann"]))


if __name__ == "__main__":
    unittest.main()
