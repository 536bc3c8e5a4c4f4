"""Points 1, 18 and 23 to 28: every refusal of a world's calls, which comes where several are due, and that nothing
changes behind one."""

import itertools
import unittest

from fencegate.errors import (
    Asleep, Awake, BadTime, Holding, NotHeld, NotShared, PausesSpent, ReadersOnly, UnknownHolder, UnknownKeeper,
    UnknownLock, UnknownStore, Waiting,
)

from helpers import ask, everything, outcome, world_with

# ann is the one of whom the cases speak, and zoe has the lock that ann waits for; `open` and `read` may be shared.
SETUP = (3, ["ann", "zoe"], ["own", "open", "read", "wanted"], ["open", "read"], ["s"])


class Refusals(unittest.TestCase):
    def world(self, asleep, waiting=False, carrying=()):
        """A world at tick 5 in which ann sleeps and waits as told, and carries `own`, `open` alone, or `read` shared;
        what is named behind `old` is run out."""
        steps = [ask("zoe", "wanted")]
        for name in carrying:
            time = 5 if name.startswith("old ") else 100
            steps.append(ask("ann", name.removeprefix("old "), name.endswith("read"), time))
        steps.append(("tick", 5))
        steps += [ask("ann", "wanted")] if waiting else []
        steps += [("pause", "ann")] if asleep else []
        return world_with(SETUP, *steps)

    def check(self, world, step, due):
        """That the first of the classes that are due comes, and nothing changes; or, with none due, that it goes."""
        before = everything(world, SETUP)
        told = outcome(world, step)
        if due:
            self.assertEqual(told, due[0], (step, due))
            self.assertEqual(everything(world, SETUP), before, step)
        else:
            self.assertNotIsInstance(told, type, step)

    def check_pairs(self, seen, order, never):
        """That each two classes were due together and alone, but for those that can't be."""
        wanted = [pair for pair in itertools.combinations(order, 2) if pair not in never]
        self.assertEqual([pair for pair in wanted if pair not in seen], [])
        for kind in order:
            self.assertIn((kind,), seen)

    def test_ask(self):
        seen = set()
        carries = [(), ("own",), ("old own",), ("open",), ("read",), ("old read",), ("own", "read")]
        for holder, lock, shared, time, asleep, waiting, carrying in itertools.product(
            ["ann", "bob"], SETUP[2] + ["ow"], [False, True], [0, -1, 1001, 1, 1000], [False, True], [False, True],
            carries,
        ):
            known = holder == "ann"
            due = []
            due += [UnknownHolder] if not known else []
            due += [UnknownLock] if lock == "ow" else []
            due += [BadTime] if time in [0, -1, 1001] else []
            due += [Asleep] if known and asleep else []
            due += [Waiting] if known and waiting else []
            due += [Holding] if known and lock in carrying else []
            due += [NotShared] if shared and lock not in ["open", "read"] else []
            seen.add(tuple(due))
            self.check(self.world(asleep, waiting, carrying), ("ask", holder, lock, shared, time), due)
        # A lock that the world does not have may not be shared either, so that pair is due too.
        order = [UnknownHolder, UnknownLock, BadTime, Asleep, Waiting, Holding, NotShared]
        never = [(UnknownHolder, Asleep), (UnknownHolder, Waiting), (UnknownHolder, Holding), (UnknownLock, Holding)]
        self.check_pairs(seen, order, never)

    def test_back(self):
        seen = set()
        carries = [(), ("own",), ("old own",), ("read",), ("old read",), ("own", "open")]
        for holder, lock, asleep, waiting, carrying in itertools.product(
            ["ann", "bob", ""], SETUP[2] + ["o", ""], [False, True], [False, True], carries,
        ):
            known = holder == "ann"
            due = []
            due += [UnknownHolder] if not known else []
            due += [UnknownLock] if lock in ["o", ""] else []
            due += [Asleep] if known and asleep else []
            seen.add(tuple(due))
            carried = known and (lock in carrying or "old " + lock in carrying)
            due += [NotHeld] if not carried else []
            seen.add(tuple(due))
            self.check(self.world(asleep, waiting, carrying), ("back", holder, lock), due)
        # Whoever is unknown carries nothing, so NotHeld is due behind the first two in any case.
        order = [UnknownHolder, UnknownLock, Asleep, NotHeld]
        self.check_pairs(seen, order, [(UnknownHolder, Asleep)])

    def test_back_of_what_is_given_back_already(self):
        world = self.world(False, False, ["own"])
        world.back("ann", "own")
        self.check(world, ("back", "ann", "own"), [NotHeld])
        self.check(world, ("write", "ann", "own", "s", 1), [NotHeld])

    def test_back_of_what_another_carries(self):
        self.check(self.world(False), ("back", "ann", "wanted"), [NotHeld])
        self.check(self.world(False, True), ("back", "ann", "wanted"), [NotHeld])

    def test_write(self):
        seen = set()
        carries = [(), ("own",), ("old own",), ("read",), ("old read",), ("open", "read")]
        for holder, lock, store, asleep, waiting, carrying in itertools.product(
            ["ann", "bob"], SETUP[2] + ["own/x"], ["s", "t"], [False, True], [False, True], carries,
        ):
            known = holder == "ann"
            carried = known and (lock in carrying or "old " + lock in carrying)
            due = []
            due += [UnknownHolder] if not known else []
            due += [UnknownLock] if lock == "own/x" else []
            due += [UnknownStore] if store == "t" else []
            due += [Asleep] if known and asleep else []
            due += [ReadersOnly] if carried and lock == "read" else []
            seen.add(tuple(due))
            due += [NotHeld] if not carried else []
            seen.add(tuple(due))
            self.check(self.world(asleep, waiting, carrying), ("write", holder, lock, store, 7), due)
        # Whoever is unknown carries nothing, and so does one that does not have the lock: those pairs can't be.
        order = [UnknownHolder, UnknownLock, UnknownStore, Asleep, NotHeld, ReadersOnly]
        never = [(UnknownHolder, Asleep), (UnknownHolder, ReadersOnly), (UnknownLock, ReadersOnly),
                 (NotHeld, ReadersOnly)]
        self.check_pairs(seen, order, never)

    def test_pause(self):
        for asleep, spent, holder in itertools.product([False, True], [False, True], ["ann", "bob"]):
            world = self.world(False)
            for time in range(19 if asleep else 20):
                if spent:
                    world.pause("zoe")
                    world.wake("zoe")
            if asleep:
                world.pause("ann")
            due = []
            due += [UnknownHolder] if holder == "bob" else []
            due += [Asleep] if holder == "ann" and asleep else []
            due += [PausesSpent] if spent else []
            self.check(world, ("pause", holder), due)

    def test_wake(self):
        self.check(self.world(True), ("wake", "ann"), [])
        self.check(self.world(False), ("wake", "ann"), [Awake])
        self.check(self.world(True), ("wake", "zoe"), [Awake])
        self.check(self.world(True), ("wake", "bob"), [UnknownHolder])
        # An unknown holder does not sleep, so both are due.
        self.check(self.world(False), ("wake", "bob"), [UnknownHolder, Awake])
        world = self.world(True)
        world.wake("ann")
        self.check(world, ("wake", "ann"), [Awake])

    def test_fall_rise_and_notes(self):
        for keeper in [0, -1, -3, 4, 999999999999, -999999999999]:
            for name in ["fall", "rise", "notes"]:
                self.check(self.world(False, True), (name, keeper), [UnknownKeeper])
        for keeper in [1, 2, 3]:
            for name in ["fall", "rise", "notes"]:
                self.check(self.world(False, True), (name, keeper), [])

    def test_tick(self):
        for many in [0, 1001, -1, -1000, 999999999999]:
            self.check(self.world(True, True), ("tick", many), [BadTime])
        for many in [1, 2, 999, 1000]:
            self.check(self.world(True, True), ("tick", many), [])

    def test_what_is_asked_of_a_holder(self):
        for name in ["carried", "waits_on", "chain"]:
            for holder in ["bob", "", "an", "ann ", "Ann", "own", "s"]:
                self.check(self.world(True, True), (name, holder), [UnknownHolder])
            for holder in ["ann", "zoe"]:
                self.check(self.world(True, True), (name, holder), [])

    def test_what_is_asked_of_a_lock_or_a_store(self):
        for name in ["having", "free_by"]:
            for lock in ["", "own/x", "ow", "ann", "s"]:
                self.check(self.world(False), (name, lock), [UnknownLock])
        for store in ["", "t", "ann", "own"]:
            self.check(self.world(False), ("taken", store), [UnknownStore])

    def test_a_refused_pause_is_not_counted(self):
        world = self.world(False)
        for time in range(20):
            outcome(world, ("pause", "bob"))
            world.pause("ann")
            self.assertEqual(outcome(world, ("pause", "ann")), Asleep)
            world.wake("ann")
        self.check(world, ("pause", "ann"), [PausesSpent])
        self.check(world, ("pause", "zoe"), [PausesSpent])

    def test_refused_ticks_let_no_tick_pass(self):
        world = self.world(False)
        for many in [0, 1001, -1]:
            self.assertEqual(outcome(world, ("tick", many)), BadTime)
        self.assertEqual((world.now, world.tick(1)), (5, 6))

    def test_a_refused_call_leaves_no_trace_in_what_comes(self):
        plain = self.world(False, True, ["own"])
        tried = self.world(False, True, ["own"])
        for step in [ask("ann", "open"), ask("bob", "own"), ("back", "ann", "wanted"), ("write", "zoe", "own", "s", 3),
                     ("wake", "ann"), ("fall", 4), ("rise", 0), ("tick", 0)]:
            self.assertIsInstance(outcome(tried, step), type)
        for step in [("back", "zoe", "wanted"), ("write", "ann", "wanted", "s", 3), ("pause", "ann"), ("tick", 100)]:
            self.assertEqual(outcome(tried, step), outcome(plain, step))
            self.assertEqual(everything(tried, SETUP), everything(plain, SETUP))


if __name__ == "__main__":
    unittest.main()
