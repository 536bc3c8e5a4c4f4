"""Points 1, 36 and 37: the player's rows, and the answers, word for word."""

import copy
import inspect
import unittest

from fencegate import player
from fencegate.errors import BadSetup
from fencegate.player import play
from fencegate.world import World

from helpers import ask, done, everything, random_worlds

SETUP = (3, ["ann", "bob", "cid"], ["a", "a/x", "b"], ["a", "a/x"], ["s", "t"])


class TheInterface(unittest.TestCase):
    def test_the_arguments_and_kinds(self):
        self.assertEqual(list(inspect.signature(player.play).parameters), ["setup", "rows"])
        told = play(SETUP, ["tick 1", "who a"])
        self.assertIs(type(told), tuple)
        self.assertEqual([type(part) for part in told], [list, World])
        self.assertEqual([type(answer) for answer in told[0]], [str, str])

    def test_no_rows(self):
        answers, world = play(SETUP, [])
        self.assertEqual(answers, [])
        self.assertEqual(everything(world, SETUP), everything(World(*SETUP), SETUP))


class Answers(unittest.TestCase):
    def check(self, *pairs, setup=SETUP):
        """That rows, played one behind the other, are answered as told."""
        answers, world = play(setup, [row for row, answer in pairs])
        self.assertEqual(answers, [answer for row, answer in pairs])
        return world

    def test_ask_given(self):
        self.check(("ask ann a alone 10", "given 1 until 10"), ("tick 1", "tick 1"),
                   ("ask bob b alone 1000", "given 2 until 1001"))

    def test_ask_alone_and_shared(self):
        world = self.check(("ask ann a shared 10", "given 1 until 10"), ("ask bob b alone 1", "given 2 until 1"))
        self.assertEqual(world.carried("ann"), [(1, "a", True, 10)])
        self.assertEqual(world.carried("bob"), [(2, "b", False, 1)])

    def test_ask_waits(self):
        self.check(("ask ann a alone 10", "given 1 until 10"), ("ask bob a/x shared 5", "waits bob ann"),
                   ("ask cid a/x alone 5", "waits cid ann"), ("chain bob", "chain bob ann"))
        self.check(("ask ann a shared 10", "given 1 until 10"), ("ask bob a alone 5", "waits bob ann"),
                   ("ask cid a/x shared 5", "waits cid bob ann"))
        self.check(("fall 1", "down"), ("fall 2", "down"), ("ask ann a alone 5", "waits ann"))

    def test_ask_broken(self):
        self.check(("ask ann a alone 10", "given 1 until 10"), ("ask bob b alone 10", "given 2 until 10"),
                   ("ask ann b alone 5", "waits ann bob"), ("ask bob a alone 5", "broken bob ann"))

    def test_back(self):
        self.check(("ask ann a alone 10", "given 1 until 10"), ("back ann a", "back 1 2 3"))
        self.check(("ask ann a alone 10", "given 1 until 10"), ("fall 2", "down"), ("back ann a", "back 1 3"))
        self.check(("ask ann a alone 10", "given 1 until 10"), ("tick 10", "tick 10"), ("back ann a", "back none"))
        self.check(("ask ann a alone 9", "given 1 until 9"), ("fall 1", "down"), ("fall 2", "down"), ("fall 3", "down"),
                   ("back ann a", "back none"))

    def test_write(self):
        self.check(("ask ann a alone 5", "given 1 until 5"), ("ask ann b alone 9", "given 2 until 9"),
                   ("write ann b s 0", "taken"), ("write ann a s 7", "stale"), ("write ann a t 7", "taken"))

    def test_pause_and_wake(self):
        self.check(("pause ann", "asleep"), ("wake ann", "awake with none"))
        self.check(("ask ann a alone 9", "given 1 until 9"), ("pause ann", "asleep"), ("wake ann", "awake a 1 9 kept"))

    def test_wake_with_several_locks(self):
        self.check(
            ("ask ann b alone 3", "given 1 until 3"), ("ask ann a/x shared 9", "given 2 until 9"), ("fall 2", "down"),
            ("ask ann a alone 9", "given 3 until 9"), ("rise 2", "up"), ("fall 1", "down"), ("pause ann", "asleep"),
            ("tick 3", "tick 3"), ("wake ann", "awake b 1 3 run out a/x 2 9 kept a 3 9 unsettled"),
        )

    def test_fall_and_rise(self):
        self.check(("rise 1", "as it was"), ("fall 1", "down"), ("fall 1", "as it was"), ("rise 1", "up"),
                   ("fall 3", "down"))

    def test_tick(self):
        self.check(("tick 1", "tick 1"), ("tick 1000", "tick 1001"), ("tick 20", "tick 1021"))

    def test_who(self):
        self.check(("who a", "free by 1 2 3"), ("ask ann a alone 9", "given 1 until 9"), ("tick 2", "tick 2"),
                   ("who a", "held ann 1 until 9 by 1 2 3"), ("who a/x", "neither"), ("who b", "free by 1 2 3"),
                   ("fall 2", "down"), ("who a", "held ann 1 until 9 by 1 3"), ("who b", "free by 1 3"),
                   ("fall 1", "down"), ("who a", "neither"), ("who b", "neither"), ("rise 2", "up"),
                   ("tick 7", "tick 9"),
                   ("who a", "free by 2 3"))

    def test_who_with_several(self):
        self.check(("ask bob a shared 9", "given 1 until 9"), ("fall 3", "down"),
                   ("ask ann a shared 4", "given 2 until 4"),
                   ("rise 3", "up"), ("who a", "held bob 1 until 9 by 1 2 3 ann 2 until 4 by 1 2"))

    def test_chain(self):
        self.check(("chain ann", "chain ann"), ("ask ann a alone 9", "given 1 until 9"),
                   ("ask bob b alone 9", "given 2 until 9"), ("ask bob a alone 9", "waits bob ann"),
                   ("ask cid b alone 9", "waits cid bob ann"), ("chain cid", "chain cid bob ann"))

    def test_store(self):
        self.check(("store s", "empty"), ("ask ann b alone 9", "given 1 until 9"), ("write ann b s 7", "taken"),
                   ("write ann b s 3", "taken"), ("store s", "top 1 value 3"), ("store t", "empty"),
                   ("ask ann a alone 9", "given 2 until 9"), ("write ann a s 0", "taken"), ("write ann b s 9", "stale"),
                   ("store s", "top 2 value 0"))

    def test_great_numbers(self):
        self.check(("ask ann b alone 9", "given 1 until 9"), ("write ann b s 999999999999", "taken"),
                   ("store s", "top 1 value 999999999999"))

    def test_one_keeper_and_names_of_figures(self):
        self.check(("ask 1 1/2 alone 9", "given 1 until 9"), ("who 1/2", "held 1 1 until 9 by 1"),
                   ("back 1 1/2", "back 1"),
                   ("store 1", "empty"), setup=(1, ["1"], ["1/2"], [], ["1"]))


class Refused(unittest.TestCase):
    def check(self, rows, word):
        """That the last of the rows is refused with this word, and the world is as behind the others."""
        answers, world = play(SETUP, rows)
        self.assertEqual(answers[-1], "refused: " + word)
        for answer in answers[:-1]:
            self.assertFalse(answer.startswith("refused"), answers)
        self.assertEqual(everything(world, SETUP), everything(play(SETUP, rows[:-1])[1], SETUP))

    def test_holder(self):
        for row in ["ask zed a alone 5", "back zed a", "write zed a s 1", "pause zed", "wake zed", "chain zed",
                    "chain a"]:
            self.check([row], "holder")

    def test_lock(self):
        for row in ["ask ann z alone 5", "back ann a/y", "write ann ann s 1", "who z", "who a/x/y", "who A/"]:
            self.check([row], "lock")

    def test_store(self):
        for row in ["write ann a z 1", "store z", "store a"]:
            self.check([row], "store")

    def test_keeper(self):
        for row in ["fall 0", "fall 4", "rise 0", "rise 4", "fall 999999999999"]:
            self.check([row], "keeper")

    def test_time(self):
        for row in ["ask ann a alone 0", "ask ann a alone 1001", "tick 0", "tick 1001", "tick 999999999999"]:
            self.check([row], "time")

    def test_asleep(self):
        for row in ["ask ann a alone 5", "back ann a", "write ann a s 1", "pause ann"]:
            self.check(["pause ann", row], "asleep")

    def test_awake(self):
        self.check(["wake ann"], "awake")
        self.check(["pause ann", "wake ann", "wake ann"], "awake")

    def test_pauses(self):
        self.check(["pause ann", "wake ann"] * 20 + ["pause bob"], "pauses")

    def test_waiting(self):
        self.check(["ask ann a alone 9", "ask bob a alone 9", "ask bob b alone 9"], "waiting")

    def test_holding(self):
        self.check(["ask ann a alone 9", "ask ann a shared 5"], "holding")

    def test_not_shared(self):
        self.check(["ask ann b shared 9"], "not shared")

    def test_not_held(self):
        for row in ["back ann a", "write ann a s 1"]:
            self.check([row], "not held")
            self.check(["ask ann a alone 9", "back ann a", row], "not held")

    def test_readers_only(self):
        self.check(["ask ann a shared 9", "write ann a s 1"], "readers only")

    def test_the_rows_behind_a_refusal_go_on(self):
        answers, world = play(SETUP, ["wake ann", "ask ann a alone 9", "tick 0", "tick 3"])
        self.assertEqual(answers, ["refused: awake", "given 1 until 9", "refused: time", "tick 3"])

    def test_a_bad_setup_is_refused_as_such(self):
        for setup in [
            (0, ["ann"], ["a"], [], []), (6, ["ann"], ["a"], [], []), (1, [], ["a"], [], []), (1, ["ann"], [], [], []),
            (1, ["ann"], ["a"], ["b"], []), (1, ["ann"], ["a"], [], ["s", "s"]), (1, ["Ann"], ["a"], [], []),
        ]:
            for rows in [[], ["tick 1"]]:
                with self.assertRaises(BadSetup) as caught:
                    play(setup, rows)
                self.assertIs(type(caught.exception), BadSetup)


class TheWorldThatIsTold(unittest.TestCase):
    ROWS = ["ask ann a alone 9", "ask bob a shared 4", "tick 3", "write ann a s 5", "pause ann", "fall 2", "tick 8",
            "who a", "chain bob", "store s", "wake ann", "back ann a", "rise 2"]

    def test_is_the_one_that_was_played(self):
        answers, world = play(SETUP, self.ROWS)
        other = World(*SETUP)
        done(other, ask("ann", "a", False, 9), ask("bob", "a", True, 4), ("tick", 3), ("write", "ann", "a", "s", 5),
             ("pause", "ann"), ("fall", 2), ("tick", 8), ("wake", "ann"), ("back", "ann", "a"), ("rise", 2))
        self.assertEqual(everything(world, SETUP), everything(other, SETUP))
        self.assertEqual(len(answers), len(self.ROWS))

    def test_goes_on_from_there(self):
        world = play(SETUP, self.ROWS[:3])[1]
        self.assertEqual(world.tick(6), 9)
        self.assertEqual(world.carried("bob"), [(2, "a", True, 13)])

    def test_two_plays_are_apart(self):
        one = play(SETUP, self.ROWS)
        before = everything(one[1], SETUP)
        other = play(SETUP, self.ROWS)
        self.assertEqual(one[0], other[0])
        other[1].tick(50)
        other[0].clear()
        self.assertEqual(everything(one[1], SETUP), before)
        self.assertEqual(len(one[0]), len(self.ROWS))

    def test_what_is_handed_in_stays_and_is_not_shared(self):
        setup = copy.deepcopy(SETUP)
        rows = list(self.ROWS)
        answers, world = play(setup, rows)
        self.assertEqual((setup, rows), (SETUP, self.ROWS))
        before = everything(world, SETUP)
        for part in setup[1:]:
            part.clear()
        rows.clear()
        self.assertEqual(everything(world, SETUP), before)

    def test_a_world_played_again_from_its_log(self):
        rows_of = {"ask": [2, 3, 4, 5], "back": [2, 3], "taken": [2, 3, 5, 6], "stale": [2, 3, 5, 6], "pause": [2],
                   "wake": [2], "fall": [2], "rise": [2]}
        for setup, world in random_worlds(40, 60):
            rows = []
            now = 0
            for row in world.log():
                if row[0] in rows_of:
                    rows += ["tick " + str(row[1] - now)] if row[1] > now else []
                    now = row[1]
                    words = [row[place] for place in rows_of[row[0]]]
                    if row[0] == "ask":
                        words[2] = "shared" if words[2] else "alone"
                    kind = "write" if row[0] in ["taken", "stale"] else row[0]
                    rows.append(" ".join([kind] + [str(word) for word in words]))
            rows += ["tick " + str(world.now - now)] if world.now > now else []
            again = play(setup, rows)[1]
            self.assertEqual(everything(again, setup), everything(world, setup))


if __name__ == "__main__":
    unittest.main()
