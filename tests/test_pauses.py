"""Points 1, 34 and 35: rows made late by a pause, and one pause at every place."""

import copy
import inspect
import random
import unittest
from unittest import mock

from fencegate import pauses
from fencegate.errors import BadSetup
from fencegate.pauses import every_place, late
from fencegate.player import play
from fencegate.reread import faults

from helpers import random_setup

ROWS = [
    "ask ann a alone 5", "ask bob b alone 9", "tick 3", "write ann a s 1", "chain ann", "tick 2", "back ann a",
    "tick 4",
    "who a",
]


class TheInterface(unittest.TestCase):
    def test_the_arguments(self):
        self.assertEqual(list(inspect.signature(pauses.late).parameters), ["rows", "place", "holder", "ticks"])
        self.assertEqual(list(inspect.signature(pauses.every_place).parameters), ["setup", "rows", "holder", "ticks"])


class Late(unittest.TestCase):
    def test_at_place_0(self):
        self.assertEqual(late(ROWS, 0, "ann", 4), [
            "pause ann", "ask bob b alone 9", "tick 3", "chain ann", "tick 2", "wake ann", "ask ann a alone 5",
            "write ann a s 1", "back ann a", "tick 4", "who a",
        ])

    def test_in_the_middle(self):
        self.assertEqual(late(ROWS, 3, "ann", 2), [
            "ask ann a alone 5", "ask bob b alone 9", "tick 3", "pause ann", "chain ann", "tick 2", "wake ann",
            "write ann a s 1", "back ann a", "tick 4", "who a",
        ])

    def test_at_the_end(self):
        self.assertEqual(late(ROWS, 9, "ann", 7), ROWS + ["pause ann", "tick 7", "wake ann"])

    def test_of_no_rows(self):
        self.assertEqual(late([], 0, "ann", 1000), ["pause ann", "tick 1000", "wake ann"])

    def test_tick_rows_that_reach_the_pause_exactly_and_beyond(self):
        for ticks in [1, 2, 3]:
            self.assertEqual(late(ROWS, 1, "bob", ticks), [
                "ask ann a alone 5", "pause bob", "tick 3", "wake bob", "ask bob b alone 9",
            ] + ROWS[3:])
        for ticks in [4, 5]:
            self.assertEqual(late(ROWS, 1, "bob", ticks), [
                "ask ann a alone 5", "pause bob", "tick 3", "write ann a s 1", "chain ann", "tick 2", "wake bob",
                "ask bob b alone 9", "back ann a", "tick 4", "who a",
            ])

    def test_a_pause_that_is_not_over_within_the_rows(self):
        for ticks, lacking in [(10, 1), (11, 2), (1000, 991)]:
            self.assertEqual(late(ROWS, 1, "bob", ticks), [
                "ask ann a alone 5", "pause bob", "tick 3", "write ann a s 1", "chain ann", "tick 2", "back ann a",
                "tick 4", "who a", "tick " + str(lacking), "wake bob", "ask bob b alone 9",
            ])

    def test_a_pause_that_is_over_with_the_last_row(self):
        rows = ["write ann a s 1", "tick 5"]
        self.assertEqual(late(rows, 0, "ann", 5), ["pause ann", "tick 5", "wake ann", "write ann a s 1"])
        self.assertEqual(late(rows, 0, "ann", 6), ["pause ann", "tick 5", "tick 1", "wake ann", "write ann a s 1"])

    def test_ticks_ahead_of_the_pause_don_t_count(self):
        self.assertEqual(late(["tick 9", "tick 1"], 1, "ann", 2),
                         ["tick 9", "pause ann", "tick 1", "tick 1", "wake ann"])

    def test_every_row_of_the_holders_own_is_held_back_in_its_order(self):
        own = ["wake ann", "ask ann a shared 5", "pause ann", "back ann a", "write ann a s 0", "ask ann b alone 5"]
        self.assertEqual(late(own + ["tick 1"] + own, 0, "ann", 1), ["pause ann", "tick 1", "wake ann"] + own + own)
        self.assertEqual(late(own, 0, "ann", 3), ["pause ann", "tick 3", "wake ann"] + own)
        self.assertEqual(late(own, 2, "ann", 3), own[:2] + ["pause ann", "tick 3", "wake ann"] + own[2:])

    def test_rows_of_others_and_rows_that_only_name_it_are_not_held_back(self):
        rows = ["ask bob ann alone 5", "chain 5", "who 5", "store 5", "fall 5", "rise 5", "back bob 5",
                "write bob 5 5 5",
                "pause 55", "wake bob", "ask 5a b alone 5"]
        self.assertEqual(late(rows, 0, "5", 2), ["pause 5"] + rows + ["tick 2", "wake 5"])
        self.assertEqual(late(["tick 5"], 0, "5", 5), ["pause 5", "tick 5", "wake 5"])

    def test_the_rest_is_as_it_is(self):
        rows = ["tick 5", "pause ann", "tick 3", "wake ann", "write ann a s 1", "tick 1"]
        self.assertEqual(late(rows, 0, "ann", 5), ["pause ann", "tick 5", "wake ann"] + rows[1:])

    def test_the_rows_handed_in_stay_and_what_is_told_is_the_askers_own(self):
        rows = list(ROWS)
        for place in range(10):
            for ticks in [1, 4, 100]:
                told = late(rows, place, "ann", ticks)
                self.assertEqual(rows, ROWS)
                told.clear()
                self.assertEqual(rows, ROWS)


SETUP = (3, ["ann", "bob"], ["a"], [], ["s"])
PLAYED = ["ask ann a alone 5", "write ann a s 1", "tick 1", "back ann a", "ask bob a alone 5", "tick 5",
          "write bob a s 2"]


class EveryPlace(unittest.TestCase):
    def test_for_each_place(self):
        # At place 0 ann asks behind bob, and her number is the greater one, so his write comes too late. At 1 her
        # write comes when her time has run out, but ahead of his. From 2 on only her back is late, or nothing.
        self.assertEqual(every_place(SETUP, PLAYED, "ann", 6), [(1, 1, 0)] + [(2, 0, 0)] * 7)

    def test_a_sleeper_that_comes_too_late_is_refused(self):
        rows = ["ask ann a alone 5", "ask bob a alone 5", "tick 5", "write bob a s 1", "tick 1", "write ann a s 2"]
        self.assertEqual(every_place(SETUP, rows, "ann", 6), [(2, 0, 0)] + [(1, 1, 0)] * 6)
        # A pause of bob's at place 3 holds back his write until ann's, with the lesser number, is through.
        self.assertEqual(every_place(SETUP, rows, "bob", 6), [(1, 1, 0)] * 3 + [(2, 0, 0)] + [(1, 1, 0)] * 3)

    def test_each_place_is_played_in_a_world_of_its_own(self):
        for holder in ["ann", "bob"]:
            for ticks in [1, 3, 6, 50]:
                told = every_place(SETUP, PLAYED, holder, ticks)
                self.assertEqual(told, [play_and_count(late(PLAYED, place, holder, ticks)) for place in range(8)])

    def test_what_is_counted_is_what_the_stores_took_and_refused(self):
        # A write of one that does not carry the lock is no write that a store refused.
        self.assertEqual(every_place(SETUP, ["write ann a s 1"], "ann", 1), [(0, 0, 0), (0, 0, 0)])
        self.assertEqual(every_place(SETUP, [], "ann", 1), [(0, 0, 0)])
        rows = ["ask ann a alone 9", "write ann a s 1", "write ann a s 2"]
        self.assertEqual(every_place(SETUP, rows, "bob", 1), [(2, 0, 0)] * 4)

    def test_of_the_faults_only_below_is_counted(self):
        # No world's log has such a fault; for the count to be seen at all, the faults are made up here.
        made_up = [(0, "number"), (1, "below"), (2, "stranger"), (2, "below"), (4, "below")]
        with mock.patch.object(pauses, "faults", return_value=made_up):
            self.assertEqual(every_place(SETUP, ["tick 1"], "ann", 1), [(0, 0, 3), (0, 0, 3)])

    def test_of_a_holder_that_is_unknown(self):
        rows = ["ask ann a alone 9", "tick 1", "write ann a s 1"]
        self.assertEqual(every_place(SETUP, rows, "zed", 5), [(1, 0, 0)] * 4)

    def test_a_bad_setup(self):
        for setup in [(0, ["ann"], ["a"], [], []), (1, [], ["a"], [], [])]:
            with self.assertRaises(BadSetup):
                every_place(setup, ["tick 1"], "ann", 1)

    def test_the_last_is_always_0(self):
        refused = 0
        for seed in range(60):
            chance = random.Random(seed)
            setup = random_setup(chance)
            rows = random_rows(chance, setup, 30)
            told = every_place(setup, rows, setup[1][0], chance.choice([1, 3, 10, 1000]))
            self.assertEqual(len(told), 31)
            self.assertEqual([one[2] for one in told], [0] * 31)
            refused += sum(one[1] for one in told)
        self.assertGreater(refused, 0)

    def test_what_is_handed_in_stays_as_it_is(self):
        setup = copy.deepcopy(SETUP)
        rows = list(PLAYED)
        told = every_place(setup, rows, "ann", 6)
        self.assertEqual((setup, rows), (SETUP, PLAYED))
        again = every_place(setup, rows, "ann", 6)
        told.clear()
        self.assertEqual(every_place(setup, rows, "ann", 6), again)


def play_and_count(rows):
    log = play(SETUP, rows)[1].log()
    kinds = [row[0] for row in log]
    return (kinds.count("taken"), kinds.count("stale"), len([fault for fault in faults(log) if fault[1] == "below"]))


def random_rows(chance, setup, count):
    rows = []
    for place in range(count):
        holder = chance.choice(setup[1])
        lock = chance.choice(setup[2])
        rows.append(chance.choice([
            f"ask {holder} {lock} {chance.choice(['alone', 'shared'])} {chance.randint(1, 9)}",
            f"ask {holder} {lock} alone {chance.randint(1, 9)}",
            f"back {holder} {lock}",
            f"write {holder} {lock} {chance.choice(setup[4])} {place}",
            f"write {holder} {lock} s {place}",
            f"tick {chance.randint(1, 6)}",
        ]))
    return rows


if __name__ == "__main__":
    unittest.main()
