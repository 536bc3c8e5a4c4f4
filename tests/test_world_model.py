"""Points 3 to 29 together: worlds of random events against a model that does each point by its words, tick by tick."""

import random
import unittest

from fencegate import errors
from fencegate.reread import faults
from fencegate.world import World

from helpers import everything, outcome, random_setup, random_step, random_worlds


class Model:
    """All of a world in one place, with nothing of the package but the refusals; slow, and settled at each tick."""

    def __init__(self, keepers, holders, locks, shared, stores):
        self.setup = (keepers, holders, locks, shared, stores)
        self.now = 0
        self.up = {keeper: True for keeper in range(1, keepers + 1)}
        self.top = {keeper: 0 for keeper in self.up}
        self.kept = {keeper: {} for keeper in self.up}
        self.written = {store: [] for store in stores}
        self.carries = []
        self.askings = []
        self.asleep = {}
        self.pauses = 0
        self.rows = []

    def refuse(self, *due):
        for name, holds in due:
            if holds:
                raise getattr(errors, name)("refused by the model")

    def strange(self, holder):
        return ("UnknownHolder", holder not in self.setup[1])

    def no_lock(self, lock):
        return ("UnknownLock", lock not in self.setup[2])

    # The keepers and what they say.

    def line(self, one, other):
        return (one + "/").startswith(other + "/") or (other + "/").startswith(one + "/")

    def way(self, lock, shared, other, other_shared):
        return self.line(lock, other) and (not shared or not other_shared)

    def notes(self, keeper):
        self.refuse(("UnknownKeeper", keeper not in self.up))
        return [note for number, note in sorted(self.kept[keeper].items()) if note[4] > self.now]

    def ups(self):
        return [keeper for keeper in sorted(self.up) if self.up[keeper]]

    def most(self, keepers):
        return 2 * len(keepers) > self.setup[0]

    def named_by(self, keeper, asking):
        tick, holder, lock, shared, time = asking
        others = [note for note in self.notes(keeper) if note[1] != holder]
        return {note[1] for note in others if self.way(lock, shared, note[2], note[3])}

    def sayers(self, asking):
        return [keeper for keeper in self.ups() if not self.named_by(keeper, asking)]

    def having(self, lock):
        self.refuse(self.no_lock(lock))
        numbers = sorted({note[0] for keeper in self.ups() for note in self.notes(keeper) if note[2] == lock})
        told = []
        for number in numbers:
            keepers = [keeper for keeper in self.ups() if number in [note[0] for note in self.notes(keeper)]]
            note = self.kept[keepers[0]][number]
            if self.most(keepers):
                told.append((number, note[1], note[3], note[4], keepers))
        return told

    def free_by(self, lock):
        self.refuse(self.no_lock(lock))
        bare = [keeper for keeper in self.ups() if not [n for n in self.notes(keeper) if self.line(n[2], lock)]]
        return bare if self.most(bare) else []

    # The row.

    def row(self):
        return sorted(self.askings, key=lambda asking: asking[:2])

    def first_ahead(self, asking):
        for other in self.row():
            if other == asking:
                return ""
            if self.way(asking[2], asking[3], other[2], other[3]):
                return other[1]

    def waits_on(self, holder):
        self.refuse(self.strange(holder))
        for asking in self.askings:
            if asking[1] == holder:
                votes = [name for keeper in self.ups() for name in sorted(self.named_by(keeper, asking))]
                if votes and not self.most(self.sayers(asking)):
                    return sorted(votes, key=lambda name: (-votes.count(name), name))[0]
                return self.first_ahead(asking)
        return ""

    def chain(self, holder):
        self.refuse(self.strange(holder))
        told = [holder]
        while self.waits_on(told[-1]) not in told + [""]:
            told.append(self.waits_on(told[-1]))
        return told

    def in_ring(self, holder):
        return self.waits_on(self.chain(holder)[-1]) == holder

    def settle(self):
        while self.give_one() or self.break_one():
            pass

    def give_one(self):
        for asking in self.row():
            tick, holder, lock, shared, time = asking
            sayers = self.sayers(asking)
            if self.most(sayers) and self.first_ahead(asking) == "":
                number = max(self.top[keeper] for keeper in self.ups()) + 1
                end = self.now + time
                for keeper in sayers:
                    for old, note in list(self.kept[keeper].items()):
                        if note[1:3] == (holder, lock):
                            del self.kept[keeper][old]
                    self.kept[keeper][number] = (number, holder, lock, shared, end)
                    self.top[keeper] = number
                self.askings.remove(asking)
                self.carries = [(who, carry) for who, carry in self.carries if (who, carry[1]) != (holder, lock)]
                self.carries.append((holder, (number, lock, shared, end)))
                self.rows.append(("given", self.now, holder, lock, shared, number, end, tuple(sayers)))
                return True
        return False

    def break_one(self):
        for asking in reversed(self.row()):
            if self.in_ring(asking[1]):
                self.rows.append(("broken", self.now, asking[1], asking[2], tuple(self.chain(asking[1]))))
                self.askings.remove(asking)
                return True
        return False

    # The events.

    def carry(self, holder, lock):
        return ([carry for who, carry in self.carries if (who, carry[1]) == (holder, lock)] + [None])[0]

    def carried(self, holder):
        self.refuse(self.strange(holder))
        return sorted(carry for who, carry in self.carries if who == holder)

    def ask(self, holder, lock, shared, time):
        carry = self.carry(holder, lock)
        self.refuse(
            self.strange(holder), self.no_lock(lock), ("BadTime", time not in range(1, 1001)),
            ("Asleep", holder in self.asleep), ("Waiting", holder in [asking[1] for asking in self.askings]),
            ("Holding", carry is not None and carry[3] > self.now), ("NotShared", shared and lock not in self.setup[3]),
        )
        self.askings.append((self.now, holder, lock, shared, time))
        self.rows.append(("ask", self.now, holder, lock, shared, time))
        self.settle()
        if holder in [asking[1] for asking in self.askings]:
            return ("waits", self.chain(holder))
        last = [row for row in self.rows if row[0] in ["given", "broken"] and row[2] == holder][-1]
        return ("given", last[5], last[6]) if last[0] == "given" else ("broken", list(last[4]))

    def back(self, holder, lock):
        carry = self.carry(holder, lock)
        self.refuse(self.strange(holder), self.no_lock(lock), ("Asleep", holder in self.asleep),
                    ("NotHeld", carry is None))
        self.carries.remove((holder, carry))
        droppers = [keeper for keeper in self.ups() if carry[0] in [note[0] for note in self.notes(keeper)]]
        for keeper in droppers:
            del self.kept[keeper][carry[0]]
        self.rows.append(("back", self.now, holder, lock, carry[0]))
        self.settle()
        return droppers

    def write(self, holder, lock, store, value):
        carry = self.carry(holder, lock)
        self.refuse(self.strange(holder), self.no_lock(lock), ("UnknownStore", store not in self.setup[4]),
                    ("Asleep", holder in self.asleep), ("NotHeld", carry is None), ("ReadersOnly", carry and carry[2]))
        top = max([0] + [write[0] for write in self.written[store]])
        if carry[0] < top:
            self.rows.append(("stale", self.now, holder, lock, carry[0], store, value, top))
            return False
        self.written[store].append((carry[0], holder, lock, value))
        self.rows.append(("taken", self.now, holder, lock, carry[0], store, value))
        return True

    def pause(self, holder):
        self.refuse(self.strange(holder), ("Asleep", holder in self.asleep), ("PausesSpent", self.pauses == 20))
        self.pauses += 1
        self.asleep[holder] = self.now
        self.rows.append(("pause", self.now, holder))

    def wake(self, holder):
        self.refuse(self.strange(holder), ("Awake", holder not in self.asleep))
        self.rows.append(("wake", self.now, holder, self.asleep.pop(holder)))
        told = []
        for number, lock, shared, end in self.carried(holder):
            kept = (number, holder) in [held[:2] for held in self.having(lock)]
            told.append((lock, number, end, "run out" if end <= self.now else "kept" if kept else "unsettled"))
        return told

    def turn(self, keeper, up):
        self.refuse(("UnknownKeeper", keeper not in self.up))
        changed = self.up[keeper] != up
        self.up[keeper] = up
        if changed:
            self.rows.append(("rise" if up else "fall", self.now, keeper))
        self.settle()
        return changed

    def fall(self, keeper):
        return self.turn(keeper, False)

    def rise(self, keeper):
        return self.turn(keeper, True)

    def tick(self, many):
        self.refuse(("BadTime", many not in range(1, 1001)))
        for step in range(many):
            self.now += 1
            self.settle()
        return self.now

    def sleepers(self):
        return sorted(self.asleep)

    def taken(self, store):
        self.refuse(("UnknownStore", store not in self.setup[4]))
        return list(self.written[store])

    def log(self):
        return list(self.rows)


class AgainstTheModel(unittest.TestCase):
    def test_the_same_is_told_behind_each_event(self):
        kinds = set()
        for seed in range(250):
            chance = random.Random(seed)
            setup = random_setup(chance)
            world = World(*setup)
            model = Model(*setup)
            for count in range(45):
                step = random_step(chance, setup)
                self.assertEqual(outcome(world, step), outcome(model, step), (seed, count, step))
                self.assertEqual(everything(world, setup), everything(model, setup), (seed, count, step))
            kinds.update(row[0] for row in world.log())
        # Every kind of row has come up, so none of them went unseen.
        self.assertEqual(kinds, {
            "ask", "given", "broken", "back", "taken", "stale", "pause", "wake", "fall", "rise",
        })


class OverManyWorlds(unittest.TestCase):
    def test_what_holds_of_each(self):
        for setup, world in random_worlds(150, 120):
            log = world.log()
            numbers = [row[5] for row in log if row[0] == "given"]
            self.assertEqual(numbers, sorted(set(numbers)))
            self.assertEqual([row[1] for row in log], sorted(row[1] for row in log))
            self.assertEqual(faults(log), [])
            self.assertEqual([asking[:2] for asking in world.row()], sorted(asking[:2] for asking in world.row()))
            # What is settled has no ring left: each chain ends with one that waits on nobody.
            for holder in setup[1]:
                self.assertEqual(world.waits_on(world.chain(holder)[-1]), "")


if __name__ == "__main__":
    unittest.main()
