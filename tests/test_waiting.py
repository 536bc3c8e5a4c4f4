"""Points 1, 19, 21 and 22: the waiting row's order, who stands ahead in the way, chains and rings."""

import inspect
import itertools
import unittest

from fencegate import waiting
from fencegate.waiting import ahead, chain_of, last_in_ring, put_in, ring_of

NAMES = ["a", "b", "c", "d"]


def asking(tick, holder, lock="a", shared=False, time=5):
    return (tick, holder, lock, shared, time)


def all_waits(names):
    """Every way in which each of these names waits on one of them or on nobody."""
    for ons in itertools.product(names + [""], repeat=len(names)):
        yield list(zip(names, ons))


def reached(waits, name):
    """The names that going on from a name leads to, step by step, as many steps as there are askers."""
    names = []
    for step in range(len(waits)):
        name = dict(waits).get(name, "")
        names.append(name)
    return names


class TheInterface(unittest.TestCase):
    def test_the_arguments(self):
        wanted = {
            "put_in": ["row", "asking"],
            "ahead": ["row", "holder"],
            "chain_of": ["waits", "name"],
            "ring_of": ["waits", "name"],
            "last_in_ring": ["waits"],
        }
        for name, arguments in wanted.items():
            with self.subTest(name=name):
                self.assertEqual(list(inspect.signature(getattr(waiting, name)).parameters), arguments)


class PuttingIn(unittest.TestCase):
    ROW = [asking(2, "kim"), asking(4, "bob"), asking(4, "zoe"), asking(9, "ann")]

    def test_into_an_empty_row(self):
        row = []
        self.assertEqual(put_in(row, asking(3, "ann", "a/b", True, 7)), [(3, "ann", "a/b", True, 7)])
        self.assertEqual(row, [])

    def test_ahead_of_all_behind_all_and_between(self):
        for place, new in [
            (0, asking(0, "zzz")), (0, asking(1, "zzz")), (4, asking(10, "aaa")), (4, asking(999999999999, "aaa")),
            (1, asking(3, "aaa")), (1, asking(3, "zzz")), (3, asking(5, "aaa")), (3, asking(8, "zzz")),
        ]:
            self.assertEqual(put_in(self.ROW, new), self.ROW[:place] + [new] + self.ROW[place:])

    def test_equal_ticks_are_ordered_by_the_holders_name(self):
        for place, new in [
            (0, asking(2, "abe")), (1, asking(2, "moe")), (1, asking(4, "abe")), (2, asking(4, "kay")),
            (3, asking(4, "zoe1")), (2, asking(4, "bob0")), (1, asking(4, "0")), (3, asking(9, "abe")),
            (4, asking(9, "b")),
        ]:
            self.assertEqual(put_in(self.ROW, new), self.ROW[:place] + [new] + self.ROW[place:])

    def test_neither_lock_nor_kind_nor_time_orders(self):
        row = [(1, "bob", "b", True, 9)]
        self.assertEqual(put_in(row, (1, "ann", "z", True, 1000)), [(1, "ann", "z", True, 1000)] + row)
        self.assertEqual(put_in(row, (1, "zoe", "a", False, 1)), row + [(1, "zoe", "a", False, 1)])

    def test_in_every_order_the_row_is_the_same(self):
        askings = [asking(0, "bob"), asking(0, "eve"), asking(1, "ann"), asking(10, "abe"), asking(10, "zoe")]
        for order in itertools.permutations(askings):
            row = []
            for one in order:
                row = put_in(row, one)
            self.assertEqual(row, askings)

    def test_the_row_handed_in_stays_and_the_new_one_is_apart(self):
        row = list(self.ROW)
        told = put_in(row, asking(3, "eve"))
        self.assertEqual(row, self.ROW)
        told.clear()
        self.assertEqual(row, self.ROW)
        told = put_in(row, asking(3, "eve"))
        row.clear()
        self.assertEqual(len(told), 5)

    def test_the_told_row_is_a_list_of_tuples(self):
        told = put_in([asking(1, "ann")], asking(1, "bob"))
        self.assertIs(type(told), list)
        self.assertEqual([type(one) for one in told], [tuple, tuple])


class Ahead(unittest.TestCase):
    def test_no_asking_of_the_holders(self):
        self.assertEqual(ahead([], "ann"), "")
        self.assertEqual(ahead([asking(0, "bob"), asking(1, "eve")], "ann"), "")

    def test_none_in_the_way(self):
        self.assertEqual(ahead([asking(0, "ann")], "ann"), "")
        self.assertEqual(ahead([asking(0, "bob", "b"), asking(1, "ann", "a")], "ann"), "")
        self.assertEqual(ahead([asking(0, "bob", "ab"), asking(1, "eve", "a/c"), asking(1, "kim", "a/b")], "kim"), "")

    def test_one_behind_is_not_ahead(self):
        row = [asking(0, "ann"), asking(1, "bob"), asking(2, "eve")]
        self.assertEqual(ahead(row, "ann"), "")
        self.assertEqual(ahead(row, "bob"), "ann")

    def test_several_in_the_way_the_first_of_them(self):
        row = [asking(0, "zoe", "b"), asking(1, "kim", "a"), asking(2, "bob", "a"), asking(3, "ann", "a")]
        self.assertEqual(ahead(row, "ann"), "kim")
        self.assertEqual(ahead(row, "bob"), "kim")
        self.assertEqual(ahead(row, "kim"), "")

    def test_locks_on_one_line_both_ways_round(self):
        for one, other, way in [
            ("a", "a/b", True), ("a/b", "a", True), ("a/b", "a/b", True), ("a/b/c", "a", True), ("a", "ab", False),
            ("a/b", "a/c", False),
        ]:
            row = [asking(0, "zoe", one), asking(1, "ann", other)]
            self.assertEqual(ahead(row, "ann"), "zoe" if way else "")

    def test_shared_askings_side_by_side(self):
        row = [asking(0, "ann", "a", True), asking(1, "bob", "a/b", True), asking(2, "eve", "a", True)]
        for holder in ["ann", "bob", "eve"]:
            self.assertEqual(ahead(row, holder), "")

    def test_one_alone_among_shared(self):
        row = [asking(0, "zoe", "a", True), asking(1, "kim", "a", False), asking(2, "ann", "a", True)]
        self.assertEqual(ahead(row, "ann"), "kim")
        self.assertEqual(ahead(row, "kim"), "zoe")
        self.assertEqual(ahead(row, "zoe"), "")

    def test_by_the_holders_asking_and_not_by_its_name(self):
        row = [asking(0, "a", "b"), asking(1, "b", "a"), asking(2, "c", "b")]
        self.assertEqual(ahead(row, "b"), "")
        self.assertEqual(ahead(row, "c"), "a")

    def test_the_row_handed_in_stays(self):
        row = [asking(0, "zoe"), asking(1, "ann")]
        ahead(row, "ann")
        ahead(row, "eve")
        self.assertEqual(row, [asking(0, "zoe"), asking(1, "ann")])


class Chains(unittest.TestCase):
    def test_one_who_is_no_asker(self):
        self.assertEqual(chain_of([], "ann"), ["ann"])
        self.assertEqual(chain_of([("bob", "eve")], "ann"), ["ann"])
        self.assertEqual(chain_of([("bob", "ann")], "ann"), ["ann"])

    def test_one_who_waits_on_nobody(self):
        self.assertEqual(chain_of([("ann", "")], "ann"), ["ann"])

    def test_it_ends_with_one_who_waits_on_nobody(self):
        waits = [("eve", ""), ("ann", "bob"), ("bob", "eve")]
        self.assertEqual(chain_of(waits, "ann"), ["ann", "bob", "eve"])
        self.assertEqual(chain_of(waits, "bob"), ["bob", "eve"])

    def test_it_ends_with_one_who_is_no_asker(self):
        self.assertEqual(chain_of([("ann", "bob"), ("bob", "zoe")], "ann"), ["ann", "bob", "zoe"])

    def test_it_ends_ahead_of_its_first_name(self):
        waits = [("ann", "bob"), ("bob", "eve"), ("eve", "ann")]
        self.assertEqual(chain_of(waits, "ann"), ["ann", "bob", "eve"])
        self.assertEqual(chain_of(waits, "bob"), ["bob", "eve", "ann"])
        self.assertEqual(chain_of(waits, "eve"), ["eve", "ann", "bob"])

    def test_it_ends_ahead_of_a_later_name(self):
        waits = [("ann", "bob"), ("bob", "eve"), ("eve", "kim"), ("kim", "eve")]
        self.assertEqual(chain_of(waits, "ann"), ["ann", "bob", "eve", "kim"])
        self.assertEqual(chain_of([("ann", "bob"), ("bob", "bob")], "ann"), ["ann", "bob"])

    def test_a_name_that_waits_on_itself(self):
        self.assertEqual(chain_of([("ann", "ann")], "ann"), ["ann"])

    def test_eight_and_more(self):
        names = [f"h{count}" for count in range(12)]
        waits = list(zip(names, names[1:] + [""]))
        self.assertEqual(chain_of(waits, "h0"), names)
        self.assertEqual(chain_of(list(reversed(waits)), "h0"), names)

    def test_every_way_of_waiting_of_four(self):
        for waits in all_waits(NAMES):
            for name in NAMES:
                chain = chain_of(waits, name)
                self.assertEqual(chain[0], name)
                self.assertEqual(len(set(chain)), len(chain))
                for one, other in zip(chain, chain[1:]):
                    self.assertIn((one, other), waits)
                self.assertIn(dict(waits)[chain[-1]], chain + [""])

    def test_the_pairs_handed_in_stay_and_the_told_list_is_apart(self):
        waits = [("ann", "bob"), ("bob", "ann")]
        for tell in [chain_of, ring_of]:
            told = tell(waits, "ann")
            self.assertIs(type(told), list)
            told.clear()
            self.assertEqual(waits, [("ann", "bob"), ("bob", "ann")])
            self.assertEqual(tell(waits, "ann"), ["ann", "bob"])
        last_in_ring(waits)
        self.assertEqual(waits, [("ann", "bob"), ("bob", "ann")])


class Rings(unittest.TestCase):
    def test_none_at_all(self):
        self.assertEqual(ring_of([], "ann"), [])
        self.assertEqual(ring_of([("ann", "")], "ann"), [])
        self.assertEqual(ring_of([("ann", "bob")], "ann"), [])
        self.assertEqual(ring_of([("ann", "bob")], "bob"), [])
        self.assertEqual(ring_of([("ann", "bob"), ("bob", "eve")], "ann"), [])

    def test_rings_of_one_two_and_more_from_each_name_on(self):
        for size in range(1, 9):
            names = [f"h{count}" for count in range(size)]
            waits = list(zip(names, names[1:] + names[:1]))
            for place, name in enumerate(names):
                self.assertEqual(ring_of(waits, name), names[place:] + names[:place])
                self.assertEqual(ring_of(list(reversed(waits)), name), names[place:] + names[:place])

    def test_a_name_that_leads_into_a_ring(self):
        waits = [("zoe", "kim"), ("kim", "ann"), ("ann", "bob"), ("bob", "ann")]
        self.assertEqual(ring_of(waits, "zoe"), [])
        self.assertEqual(ring_of(waits, "kim"), [])
        self.assertEqual(ring_of(waits, "ann"), ["ann", "bob"])
        self.assertEqual(ring_of(waits, "bob"), ["bob", "ann"])
        self.assertEqual(ring_of([("ann", "bob"), ("bob", "bob")], "ann"), [])

    def test_one_who_is_no_asker_beside_a_ring(self):
        self.assertEqual(ring_of([("ann", "bob"), ("bob", "ann")], "eve"), [])

    def test_several_rings_at_once(self):
        waits = [("ann", "bob"), ("eve", "kim"), ("bob", "ann"), ("zoe", "zoe"), ("kim", "eve")]
        self.assertEqual(ring_of(waits, "ann"), ["ann", "bob"])
        self.assertEqual(ring_of(waits, "kim"), ["kim", "eve"])
        self.assertEqual(ring_of(waits, "zoe"), ["zoe"])

    def test_every_way_of_waiting_of_four(self):
        for waits in all_waits(NAMES):
            for name in NAMES:
                stands = name in reached(waits, name)
                self.assertEqual(ring_of(waits, name), chain_of(waits, name) if stands else [], (waits, name))


class TheLastInARing(unittest.TestCase):
    def test_none_at_all(self):
        self.assertEqual(last_in_ring([]), "")
        self.assertEqual(last_in_ring([("ann", ""), ("bob", "ann"), ("eve", "zoe")]), "")

    def test_a_ring_of_one(self):
        self.assertEqual(last_in_ring([("ann", "ann")]), "ann")
        self.assertEqual(last_in_ring([("ann", "ann"), ("bob", "ann"), ("eve", "")]), "ann")

    def test_the_last_of_the_list_and_not_by_name(self):
        self.assertEqual(last_in_ring([("ann", "bob"), ("bob", "ann")]), "bob")
        self.assertEqual(last_in_ring([("bob", "ann"), ("ann", "bob")]), "ann")

    def test_later_askers_that_only_lead_into_a_ring_are_passed_over(self):
        waits = [("ann", "bob"), ("bob", "ann"), ("eve", "bob"), ("kim", "eve"), ("zoe", "")]
        self.assertEqual(last_in_ring(waits), "bob")

    def test_several_rings_the_last_asker_of_any(self):
        waits = [("ann", "bob"), ("eve", "kim"), ("bob", "ann"), ("kim", "eve"), ("zoe", "ann")]
        self.assertEqual(last_in_ring(waits), "kim")
        waits = [("eve", "kim"), ("ann", "bob"), ("kim", "eve"), ("bob", "ann"), ("zoe", "ann")]
        self.assertEqual(last_in_ring(waits), "bob")
        self.assertEqual(last_in_ring([("zoe", "zoe"), ("ann", "ann")]), "ann")

    def test_every_way_of_waiting_of_four(self):
        for waits in all_waits(NAMES):
            standing = [name for name in NAMES if name in reached(waits, name)]
            self.assertEqual(last_in_ring(waits), (standing or [""])[-1], waits)


if __name__ == "__main__":
    unittest.main()
