"""Points 1 and 30 to 33: what a log alone tells."""

import copy
import inspect
import random
import unittest

from fencegate import reread
from fencegate.reread import faults, grants, line_of, refusals, writes

from helpers import ask, random_worlds, world_with


def given(tick, holder, lock, number, end, shared=False):
    return ("given", tick, holder, lock, shared, number, end, (1, 2))


def back(tick, holder, lock, number):
    return ("back", tick, holder, lock, number)


def taken(number, holder="ann", lock="a", store="s", value=5, tick=0):
    return ("taken", tick, holder, lock, number, store, value)


def stale(number, holder="ann", lock="a", store="s", value=5, tick=0, seen=77):
    return ("stale", tick, holder, lock, number, store, value, seen)


# Rows that tell nothing of grants, writes or faults.
OTHERS = [
    ("ask", 0, "ann", "a", False, 5), ("broken", 1, "bob", "a", ("bob", "ann")), ("pause", 1, "ann"),
    ("wake", 2, "ann", 1), ("fall", 2, 1), ("rise", 3, 1),
]


class TheInterface(unittest.TestCase):
    def test_the_arguments(self):
        wanted = {"grants": ["log"], "line_of": ["log", "lock"], "writes": ["log"], "refusals": ["log"],
                  "faults": ["log"]}
        for name, arguments in wanted.items():
            self.assertEqual(list(inspect.signature(getattr(reread, name)).parameters), arguments)

    def test_an_empty_log_and_one_with_nothing_to_tell(self):
        for log in [[], OTHERS, [back(3, "ann", "a", 1)]]:
            self.assertEqual([grants(log), line_of(log, "a"), writes(log), refusals(log), faults(log)], [[]] * 5)


class Grants(unittest.TestCase):
    def test_with_no_back_row(self):
        log = [given(3, "ann", "a", 1, 9), given(4, "bob", "b/c", 2, 6, True)]
        self.assertEqual(grants(log), [(1, "ann", "a", False, 3, 9), (2, "bob", "b/c", True, 4, 6)])

    def test_with_a_back_row(self):
        for tick, finish in [(3, 3), (4, 4), (8, 8), (9, 9), (10, 9), (99, 9), (2, 2), (0, 0)]:
            log = [given(3, "ann", "a", 1, 9)] + OTHERS + [back(tick, "ann", "a", 1)]
            self.assertEqual(grants(log), [(1, "ann", "a", False, 3, finish)])

    def test_a_back_row_of_another_holder_lock_or_number(self):
        for row in [back(5, "bob", "a", 1), back(5, "ann", "a/b", 1), back(5, "ann", "a", 2), back(5, "ann", "b", 1)]:
            log = [given(3, "ann", "a", 1, 9), row]
            self.assertEqual(grants(log), [(1, "ann", "a", False, 3, 9)])
            self.assertEqual(grants(log + [back(6, "ann", "a", 1)]), [(1, "ann", "a", False, 3, 6)])

    def test_a_back_row_ahead_of_the_given_row(self):
        self.assertEqual(grants([back(2, "ann", "a", 1), given(3, "ann", "a", 1, 9)]), [(1, "ann", "a", False, 3, 9)])

    def test_the_first_back_row_counts(self):
        for first, second, finish in [(5, 7, 5), (7, 5, 7), (20, 5, 9), (5, 20, 5)]:
            log = [given(3, "ann", "a", 1, 9), back(first, "ann", "a", 1), back(second, "ann", "a", 1)]
            self.assertEqual(grants(log), [(1, "ann", "a", False, 3, finish)])

    def test_two_given_rows_of_one_number(self):
        log = [given(3, "ann", "a", 1, 9), given(4, "ann", "a", 1, 12), back(5, "ann", "a", 1)]
        self.assertEqual(grants(log), [(1, "ann", "a", False, 3, 5), (1, "ann", "a", False, 4, 5)])
        log = [given(3, "ann", "a", 1, 9), back(5, "ann", "a", 1), given(4, "ann", "a", 1, 12)]
        self.assertEqual(grants(log), [(1, "ann", "a", False, 3, 5), (1, "ann", "a", False, 4, 12)])
        log = [given(3, "ann", "a", 1, 9), given(4, "bob", "a", 1, 12), back(5, "bob", "a", 1)]
        self.assertEqual(grants(log), [(1, "ann", "a", False, 3, 9), (1, "bob", "a", False, 4, 5)])

    def test_in_the_logs_order(self):
        log = [given(9, "ann", "a", 7, 12), given(3, "bob", "b", 2, 6), given(3, "bob", "b", 0, 0)]
        self.assertEqual([grant[0] for grant in grants(log)], [7, 2, 0])

    def test_the_line_of_a_lock(self):
        log = [given(0, "ann", "a", 1, 9), given(0, "bob", "ab", 2, 6), given(0, "bob", "a/b", 3, 6),
               given(9, "cid", "a", 4, 12), back(10, "cid", "a", 4)]
        self.assertEqual(line_of(log, "a"), [(1, "ann", "a", False, 0, 9), (4, "cid", "a", False, 9, 10)])
        self.assertEqual(line_of(log, "a/b"), [(3, "bob", "a/b", False, 0, 6)])
        self.assertEqual((line_of(log, "b"), line_of(log, "a/b/c"), line_of(log, "")), ([], [], []))

    def test_of_a_world(self):
        setup = (3, ["ann", "bob"], ["a", "b"], ["b"], [])
        world = world_with(setup, ask("ann", "a", time=5), ask("bob", "a", time=9), ask("ann", "b", True, 50),
                           ("tick", 7),
                           ("back", "bob", "a"), ("back", "ann", "a"))
        self.assertEqual(grants(world.log()), [
            (1, "ann", "a", False, 0, 5), (2, "ann", "b", True, 0, 50), (3, "bob", "a", False, 5, 7),
        ])


class Writes(unittest.TestCase):
    def test_by_number_and_those_of_one_number_in_the_logs_order(self):
        log = [taken(3, "bob", "b", "t", 9), taken(1, value=8), stale(0), taken(3, "ann", "a", "s", 2),
               taken(1, value=4),
               taken(0, "zoe"), taken(3, "bob", "b", "t", 1)] + OTHERS
        self.assertEqual(writes(log), [
            (0, "zoe", "a", "s", 5),
            (1, "ann", "a", "s", 8),
            (1, "ann", "a", "s", 4),
            (3, "bob", "b", "t", 9),
            (3, "ann", "a", "s", 2),
            (3, "bob", "b", "t", 1),
        ])

    def test_by_number_not_by_its_figures(self):
        self.assertEqual([write[0] for write in writes([taken(10), taken(9), taken(100)])], [9, 10, 100])


class Refusals(unittest.TestCase):
    def test_with_no_taken_row_ahead(self):
        for log in [[stale(3)], OTHERS + [stale(3)], [stale(3), taken(5)], [taken(5, store="t"), stale(3)],
                    [given(0, "ann", "a", 5, 9), stale(3)], [stale(9), stale(3)][1:]]:
            self.assertEqual(refusals(log), [(3, "ann", "a", "s", 5, 0, "")])

    def test_the_greatest_number_ahead_and_who_came_with_it_first(self):
        log = [taken(4, "bob"), taken(7, "cid"), taken(7, "dan"), taken(6, "eve"), taken(9, "fay", store="t"),
               stale(3, "ann", "a/b", "s", 8), taken(8, "gus"), stale(3), stale(1, "bob", "b", "t", 0)]
        self.assertEqual(refusals(log), [
            (3, "ann", "a/b", "s", 8, 7, "cid"), (3, "ann", "a", "s", 5, 8, "gus"), (1, "bob", "b", "t", 0, 9, "fay"),
        ])

    def test_needless_ones_are_told_likewise(self):
        self.assertEqual(refusals([taken(4, "bob"), stale(6)]), [(6, "ann", "a", "s", 5, 4, "bob")])

    def test_a_taken_row_with_the_number_0(self):
        self.assertEqual(refusals([taken(0, "bob"), stale(0)]), [(0, "ann", "a", "s", 5, 0, "bob")])

    def test_what_the_row_itself_has_seen_is_not_asked(self):
        self.assertEqual(refusals([taken(4, "bob"), stale(3, seen=99)])[0][5:], (4, "bob"))


class Faults(unittest.TestCase):
    def check(self, log, kinds):
        self.assertEqual(faults(log), kinds)

    def test_number(self):
        for first, second in [(1, 2), (1, 3), (0, 1)]:
            self.check([given(0, "ann", "a", first, 9), given(0, "ann", "b", second, 9)], [])
        for first, second in [(2, 2), (2, 1), (5, 0), (0, 0)]:
            self.check([given(0, "ann", "a", first, 9), given(0, "ann", "b", second, 9)], [(1, "number")])

    def test_number_is_held_against_each_one_ahead(self):
        rows = [given(0, "ann", "a", number, 9) for number in [3, 9, 5, 10, 10, 0]]
        self.check(rows, [(2, "number"), (4, "number"), (5, "number")])

    def test_the_first_given_row_has_any_number(self):
        self.check([given(0, "ann", "a", 0, 9)], [])
        self.check([taken(9, "bob"), given(0, "ann", "a", 3, 9)], [(0, "stranger")])

    def test_two(self):
        first = given(0, "ann", "a", 1, 9)
        for tick, kinds in [(0, [(1, "two")]), (8, [(1, "two")]), (9, []), (10, [])]:
            self.check([first, given(tick, "bob", "a", 2, 20)], kinds)

    def test_two_by_the_first_rows_end_whatever_its_start(self):
        self.check([given(50, "ann", "a", 1, 60), given(3, "bob", "a", 2, 4)], [(1, "two")])

    def test_no_two_of_one_holder(self):
        self.check([given(0, "ann", "a", 1, 9), given(1, "ann", "a", 2, 9), given(1, "ann", "a/b", 3, 9)], [])

    def test_two_only_in_each_others_way(self):
        for lock, shared, other, other_shared, kinds in [
            ("a", True, "a", True, []), ("a", True, "a", False, [(1, "two")]), ("a", False, "a", True, [(1, "two")]),
            ("a", False, "a/b", False, [(1, "two")]), ("a/b", False, "a", False, [(1, "two")]),
            ("a", True, "a/b", True, []), ("a", False, "ab", False, []), ("a/b", False, "a/c", False, []),
        ]:
            self.check([given(0, "ann", lock, 1, 9, shared), given(1, "bob", other, 2, 9, other_shared)], kinds)

    def test_two_with_back_rows(self):
        first = given(0, "ann", "a", 1, 9)
        second = given(5, "bob", "a", 2, 20)
        self.check([first, back(4, "ann", "a", 1), second], [])
        # Only where it stands counts, not its tick.
        self.check([first, back(99, "ann", "a", 1), second], [])
        for row in [back(4, "bob", "a", 1), back(4, "ann", "a/b", 1), back(4, "ann", "a", 2)] + OTHERS:
            self.check([first, row, second], [(2, "two")])
        self.check([back(0, "ann", "a", 1), first, second], [(2, "two")])
        self.check([first, second, back(4, "ann", "a", 1)], [(1, "two")])

    def test_two_with_one_given_anew_with_its_number(self):
        rows = [given(0, "ann", "a", 1, 9), back(1, "ann", "a", 1), given(2, "ann", "a", 1, 9),
                given(5, "bob", "a", 2, 9)]
        self.check(rows, [(2, "number"), (3, "two")])

    def test_two_with_any_row_ahead(self):
        rows = [given(0, "ann", "b", 1, 9), given(0, "ann", "a", 2, 9), given(0, "bob", "c", 3, 9),
                given(1, "cid", "a", 4, 9)]
        self.check(rows, [(3, "two")])

    def test_number_and_two_at_one_place(self):
        self.check([given(0, "ann", "a", 4, 9), given(1, "bob", "a", 4, 9)], [(1, "number"), (1, "two")])

    def test_stranger(self):
        start = given(0, "ann", "a", 3, 9)
        self.check([start, taken(3)], [])
        self.check([start, taken(3, tick=500)], [])
        for row in [taken(2), taken(4), taken(3, "bob"), taken(3, lock="a/b"), taken(3, lock="b")]:
            self.check([start, row], [(1, "stranger")])
        self.check([taken(3), start], [(0, "stranger")])
        self.check([start, back(1, "ann", "a", 3), taken(3)], [])

    def test_below(self):
        start = [given(0, "ann", "a", 3, 9), given(9, "bob", "a", 4, 20)]
        bobs = taken(4, "bob")
        self.check(start + [taken(3), bobs], [])
        self.check(start + [taken(3), bobs, bobs], [])
        self.check(start + [bobs, taken(3)], [(3, "below")])
        self.check(start + [bobs, taken(3, store="t")], [])
        self.check(start + [bobs, stale(3)], [])
        self.check(start + [bobs, taken(3), bobs, taken(3)], [(3, "below"), (5, "below")])

    def test_stranger_and_below_at_one_place(self):
        self.check([given(0, "bob", "a", 4, 9), taken(4, "bob"), taken(3)], [(2, "stranger"), (2, "below")])

    def test_needless(self):
        start = [given(0, "ann", "a", 3, 9), taken(3)]
        self.check(start + [stale(2, "bob")], [])
        self.check(start + [stale(3)], [(2, "needless")])
        self.check(start + [stale(4)], [(2, "needless")])
        self.check(start + [stale(2, store="t")], [(2, "needless")])
        self.check([stale(0)], [(0, "needless")])
        self.check([stale(2), given(0, "ann", "a", 3, 9), taken(3)], [(0, "needless")])

    def test_each_kind_in_one_log_place_by_place(self):
        self.check([
            given(0, "ann", "a", 5, 9), given(0, "bob", "a/b", 5, 9), taken(9, "cid"), taken(5), stale(9), stale(8),
        ], [(1, "number"), (1, "two"), (2, "stranger"), (3, "below"), (4, "needless")])

    def test_the_log_of_a_world_has_none(self):
        for setup, world in random_worlds(60, 100):
            self.assertEqual(faults(world.log()), [])


def slow_grants(log):
    told = []
    for place, row in enumerate(log):
        if row[0] == "given":
            backs = [other[1] for other in log[place:] if other[0] == "back" and other[2:] == row[2:4] + (row[5],)]
            finish = backs[0] if backs and backs[0] < row[6] else row[6]
            told.append((row[5],) + row[2:5] + (row[1], finish))
    return told


def slow_two(log, place):
    """Whether the given row at a place has the fault "two", by the words of point 33."""
    row = log[place]
    for early, other in enumerate(log[:place]):
        if other[0] == "given" and other[2] != row[2] and other[6] > row[1] and not (row[4] and other[4]):
            line = (row[3] + "/").startswith(other[3] + "/") or (other[3] + "/").startswith(row[3] + "/")
            if line and ("back",) not in [(r[0],) for r in log[early:place] if r[2:] == other[2:4] + (other[5],)]:
                return True
    return False


def slow_faults(log):
    told = []
    for place, row in enumerate(log):
        ahead = log[:place]
        gave = [other for other in ahead if other[0] == "given"]
        took = [other[4] for other in ahead if other[0] == "taken" and other[5:6] == row[5:6]]
        if row[0] == "given":
            told += [(place, "number")] if gave and max(other[5] for other in gave) >= row[5] else []
            told += [(place, "two")] if slow_two(log, place) else []
        if row[0] == "taken":
            told += [(place, "stranger")] if row[2:5] not in [other[2:4] + (other[5],) for other in gave] else []
            told += [(place, "below")] if took and max(took) > row[4] else []
        if row[0] == "stale":
            told += [(place, "needless")] if not took or max(took) <= row[4] else []
    return told


class LogsThatNoWorldWrote(unittest.TestCase):
    def random_log(self, chance):
        log = []
        for place in range(chance.randint(1, 25)):
            tick = chance.randint(0, 6)
            who = (chance.choice(["ann", "bob"]), chance.choice(["a", "a/b", "ab"]))
            number = chance.randint(0, 4)
            store = chance.choice("st")
            log.append(chance.choice([
                ("given", tick) + who + (chance.random() < 0.5, number, chance.randint(0, 9), (1,)),
                ("given", tick) + who + (False, number + place, chance.randint(0, 9), (1,)),
                ("back", tick) + who + (number,),
                ("taken", tick) + who + (number, store, place),
                ("stale", tick) + who + (number, store, place, chance.randint(0, 9)),
                ("pause", tick, who[0]),
            ]))
        return log

    def test_against_the_words_of_the_points(self):
        kinds = set()
        for seed in range(1500):
            log = self.random_log(random.Random(seed))
            self.assertEqual(grants(log), slow_grants(log), log)
            self.assertEqual(faults(log), slow_faults(log), log)
            kinds.update(kind for place, kind in faults(log))
        self.assertEqual(kinds, {"number", "two", "stranger", "below", "needless"})

    def test_the_log_handed_in_stays_as_it_is_and_what_is_told_is_the_askers_own(self):
        for seed in range(100):
            log = self.random_log(random.Random(seed))
            kept = copy.deepcopy(log)
            for tell in [grants, writes, refusals, faults, lambda rows: line_of(rows, "a")]:
                told = tell(log)
                self.assertIs(type(told), list)
                self.assertTrue(all(type(one) is tuple for one in told))
                again = tell(log)
                told.clear()
                self.assertEqual(tell(log), again)
            self.assertEqual(log, kept)


if __name__ == "__main__":
    unittest.main()
