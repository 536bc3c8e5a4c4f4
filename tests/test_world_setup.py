"""Points 1, 2 and 17: of what a world is made, and what is refused with BadSetup."""

import copy
import inspect
import unittest

from fencegate.errors import BadSetup, UnknownHolder, UnknownLock, UnknownStore
from fencegate.world import World

from helpers import ask, done, everything

GOOD = {
    "keepers": 3, "holders": ["ann", "bob"], "locks": ["a", "a/b", "c"], "shared": ["a", "c"], "stores": ["s", "t"],
}


def setup_with(**changes):
    setup = dict(copy.deepcopy(GOOD), **changes)
    return (setup["keepers"], setup["holders"], setup["locks"], setup["shared"], setup["stores"])


def names(many):
    return ["n" + str(place) for place in range(many)]


class TheInterface(unittest.TestCase):
    def test_the_arguments(self):
        wanted = {
            "ask": ["holder", "lock", "shared", "time"],
            "back": ["holder", "lock"],
            "write": ["holder", "lock", "store", "value"],
            "pause": ["holder"],
            "wake": ["holder"],
            "fall": ["keeper"],
            "rise": ["keeper"],
            "tick": ["many"],
            "carried": ["holder"],
            "row": [],
            "waits_on": ["holder"],
            "chain": ["holder"],
            "having": ["lock"],
            "free_by": ["lock"],
            "notes": ["keeper"],
            "ups": [],
            "sleepers": [],
            "taken": ["store"],
            "log": [],
        }
        world = World(*setup_with())
        for name, arguments in wanted.items():
            with self.subTest(name=name):
                self.assertEqual(list(inspect.signature(getattr(world, name)).parameters), arguments)
        made_of = ["keepers", "holders", "locks", "shared", "stores"]
        self.assertEqual(list(inspect.signature(World).parameters), made_of)


class GoodSetups(unittest.TestCase):
    def check(self, **changes):
        setup = setup_with(**changes)
        handed_in = copy.deepcopy(setup)
        world = World(*handed_in)
        self.assertEqual(handed_in, setup)
        self.assertEqual(everything(world, setup), {
            "now": 0,
            "row": [],
            "ups": list(range(1, setup[0] + 1)),
            "sleepers": [],
            "log": [],
            "carried": [[] for holder in setup[1]],
            "waits_on": ["" for holder in setup[1]],
            "chain": [[holder] for holder in setup[1]],
            "having": [[] for lock in setup[2]],
            "free_by": [list(range(1, setup[0] + 1)) for lock in setup[2]],
            "notes": [[] for keeper in range(setup[0])],
            "taken": [[] for store in setup[4]],
        })
        for holder in setup[1]:
            for lock in setup[2]:
                self.assertEqual(World(*setup).ask(holder, lock, False, 1), ("given", 1, 1))

    def test_an_ordinary_one(self):
        self.check()

    def test_keepers(self):
        for keepers in range(1, 6):
            self.check(keepers=keepers)

    def test_holders(self):
        for holders in [["ann"], names(8), ["a"], ["abcdefgh"], ["01234567"], ["z9"], ["0"], ["s", "a"]]:
            self.check(holders=holders)

    def test_locks(self):
        for locks in [["a"], names(10), ["a/b/c/d"], ["abcdefgh/01234567/zzzzzzzz/99999999"],
                      ["a", "ab", "a/b", "b/a"]]:
            self.check(locks=locks, shared=[])

    def test_shared_locks(self):
        for shared in [[], ["c"], ["a", "a/b", "c"], ["c", "a/b", "a"]]:
            self.check(shared=shared)
        self.check(locks=names(10), shared=names(10))

    def test_stores(self):
        for stores in [[], ["s"], names(4), ["ann", "a"], ["abcdefgh"], ["0"]]:
            self.check(stores=stores)


class BadSetups(unittest.TestCase):
    NO_NAMES = ["", "abcdefghi", "A", "annA", "a b", " ", "a ", " a", "a/b", "/", "a-b", "a_b", "a.b", "~", "`", "{",
                ":"]
    NO_PATHS = ["", "/", "a/", "/a", "a//b", "a/b/c/d/e", "abcdefghi", "a/abcdefghi", "A", "a/B", "a b", "a/ b", "a\\b"]

    def check(self, **changes):
        setup = setup_with(**changes)
        handed_in = copy.deepcopy(setup)
        with self.assertRaises(BadSetup) as caught:
            World(*handed_in)
        self.assertIs(type(caught.exception), BadSetup)
        self.assertEqual(handed_in, setup)

    def test_keepers(self):
        for keepers in [0, 6, -1, -3, 7, 999999999999, -999999999999]:
            self.check(keepers=keepers)

    def test_holders(self):
        for holders in [[], names(9), ["ann", "ann"], ["ann", "bob", "ann"]]:
            self.check(holders=holders)
        for name in self.NO_NAMES:
            self.check(holders=["ann", name])

    def test_locks(self):
        for locks in [[], names(11), ["a", "a"], ["a/b", "c", "a/b"]]:
            self.check(locks=locks, shared=[])
        for path in self.NO_PATHS:
            self.check(locks=["a", path], shared=[])

    def test_shared_locks(self):
        for shared in [["a", "a"], ["z"], ["a", "z"], ["a/b/c"], ["b"], [""], ["A"], ["a", "c", "a/b", "c"]]:
            self.check(shared=shared)

    def test_stores(self):
        for stores in [names(5), ["s", "s"], ["s", "t", "s"]]:
            self.check(stores=stores)
        for name in self.NO_NAMES:
            self.check(stores=["s", name])

    def test_several_at_once(self):
        self.check(keepers=0, holders=[], locks=[], stores=names(5))
        self.check(locks=[], shared=["a"])


class ListsHandedIn(unittest.TestCase):
    def test_what_the_caller_does_to_them_later_changes_nothing(self):
        setup = setup_with()
        world = World(*setup)
        setup[1].append("cid")
        setup[1].remove("ann")
        setup[2].append("d")
        setup[2].remove("c")
        setup[3].append("a/b")
        setup[3].remove("a")
        setup[4].append("u")
        setup[4].remove("s")
        self.assertEqual(everything(world, setup_with()), everything(World(*setup_with()), setup_with()))
        told = done(world, ask("ann", "c", time=9), ("write", "ann", "c", "s", 4), ask("ann", "a", True, 5))
        self.assertEqual(told, [("given", 1, 9), True, ("given", 2, 5)])
        with self.assertRaises(UnknownHolder):
            world.ask("cid", "a", False, 5)
        with self.assertRaises(UnknownLock):
            world.ask("bob", "d", False, 5)
        with self.assertRaises(UnknownStore):
            world.write("ann", "c", "u", 5)

    def test_two_worlds_of_the_same_lists_share_nothing(self):
        setup = setup_with()
        one = World(*setup)
        other = World(*setup)
        fresh = everything(other, setup)
        done(one, ask("ann", "a"), ask("bob", "a"), ("write", "ann", "a", "s", 1), ("pause", "ann"), ("fall", 1),
             ("tick", 3))
        self.assertEqual(everything(other, setup), fresh)
        told = done(other, ask("bob", "a", time=7), ("write", "bob", "a", "t", 2), ("pause", "bob"))
        self.assertEqual(told, [("given", 1, 7), True, None])
        self.assertEqual(one.log()[-1], ("fall", 0, 1))
        self.assertEqual((one.sleepers(), other.sleepers()), (["ann"], ["bob"]))

    def test_pauses_are_counted_world_by_world(self):
        one = World(*setup_with())
        for time in range(20):
            done(one, ("pause", "ann"), ("wake", "ann"))
        self.assertIs(World(*setup_with()).pause("ann"), None)


if __name__ == "__main__":
    unittest.main()
