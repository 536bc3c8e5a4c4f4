"""A world, played event by event: holders that ask, write, sleep and wake, and keepers that fall and rise."""

from fencegate.council import Council
from fencegate.errors import (
    Asleep, Awake, BadSetup, BadTime, Holding, NotHeld, NotShared, PausesSpent, ReadersOnly, UnknownHolder, UnknownLock,
    UnknownStore, Waiting,
)
from fencegate.paths import MOST_PAUSES, MOST_TIME, good_name, good_path
from fencegate.store import Store
from fencegate.waiting import ahead, chain_of, last_in_ring, put_in, ring_of

MOST_KEEPERS = 5
MOST_HOLDERS = 8
MOST_LOCKS = 10
MOST_STORES = 4


def all_differ(texts, least, most):
    """Tell whether a list has as many texts as it may, all different."""
    return least <= len(texts) <= most and len(set(texts)) == len(texts)


def good_setup(keepers, holders, locks, shared, stores):
    """Tell whether a world can be made of this."""
    return all([
        1 <= keepers <= MOST_KEEPERS,
        all_differ(holders, 1, MOST_HOLDERS),
        all_differ(locks, 1, MOST_LOCKS),
        all_differ(shared, 0, MOST_LOCKS),
        all_differ(stores, 0, MOST_STORES),
        all([good_name(name) for name in holders]),
        all([good_name(name) for name in stores]),
        all([good_path(path) for path in locks]),
        all([path in locks for path in shared]),
    ])


def check_time(ticks):
    if not 1 <= ticks <= MOST_TIME:
        raise BadTime("this many ticks are no time")


class World:
    """Holders, locks and stores, a council of keepers, the row of those who wait, and a log of what happened."""

    def __init__(self, keepers, holders, locks, shared, stores):
        if not good_setup(keepers, holders, locks, shared, stores):
            raise BadSetup("no world can be made of this")
        self.now = 0
        self.council = Council(keepers)
        self.holders = list(holders)
        self.locks = list(locks)
        self.shareable = list(shared)
        self.stores = dict([(name, Store()) for name in stores])
        # By (holder, lock), as a holder carries a lock once at most; what is run out stays, for it may still write.
        self.carries = {}
        self.waiting = []
        # By sleeper: the tick of its pause.
        self.asleep_since = {}
        self.pauses = 0
        self.logged = []
        # The ends of all that was given: at no other tick does a note run out.
        self.ends = {}

    def check_holder(self, holder):
        if holder not in self.holders:
            raise UnknownHolder("no holder has this name")

    def check_lock(self, lock):
        if lock not in self.locks:
            raise UnknownLock("no lock has this path")

    def check_store(self, store):
        if store not in self.stores:
            raise UnknownStore("no store has this name")

    def check_awake(self, holder):
        if holder in self.asleep_since:
            raise Asleep("the holder sleeps")

    def check_carries(self, holder, lock):
        if (holder, lock) not in self.carries:
            raise NotHeld("the holder does not carry this lock")

    def check_asking(self, holder, lock, shared, time):
        self.check_holder(holder)
        self.check_lock(lock)
        check_time(time)
        self.check_awake(holder)
        if self.asking_of(holder) is not None:
            raise Waiting("the holder waits already")
        if (holder, lock) in self.carries and self.now < self.carries[(holder, lock)][3]:
            raise Holding("the holder carries this lock, and it is not run out")
        if shared and lock not in self.shareable:
            raise NotShared("this lock may not be shared")

    def ask(self, holder, lock, shared, time):
        """Ask for a lock; tell whether it was given, was broken off, or waits."""
        self.check_asking(holder, lock, shared, time)
        self.waiting = put_in(self.waiting, (self.now, holder, lock, shared, time))
        self.logged.append(("ask", self.now, holder, lock, shared, time))
        place = len(self.logged)
        self.settle()
        # A holder has one asking in the row, so what is logged of it behind its asking is what came of that.
        for row in self.logged[place:]:
            if row[0] == "given" and row[2] == holder:
                return ("given", row[5], row[6])
            if row[0] == "broken" and row[2] == holder:
                return ("broken", list(row[4]))
        return ("waits", self.chain(holder))

    def settle(self):
        """Give what can be given, and break the rings, until there is neither."""
        self.give_all()
        while self.break_ring():
            self.give_all()

    def give_all(self):
        asking = self.first_to_give()
        while asking is not None:
            self.give_to(asking)
            asking = self.first_to_give()

    def first_to_give(self):
        """Tell the first asking that is free and has none ahead of it in its way; None if there is none."""
        for asking in self.waiting:
            if self.is_free(asking) and ahead(self.waiting, asking[1]) == "":
                return asking
        return None

    def is_free(self, asking):
        sayers = self.council.sayers(asking[1], asking[2], asking[3], self.now)
        return len(sayers) >= self.council.most

    def give_to(self, asking):
        """Give an asking its lock; the holder then carries it in the place of what it carried of that lock."""
        holder = asking[1]
        lock = asking[2]
        shared = asking[3]
        end = self.now + asking[4]
        given = self.council.give(holder, lock, shared, self.now, asking[4])
        self.leave_row(holder)
        self.carries[(holder, lock)] = (given[0], lock, shared, end)
        self.ends[end] = True
        self.logged.append(("given", self.now, holder, lock, shared, given[0], end, tuple(given[1])))

    def break_ring(self):
        """Break off the last asker that stands in a ring; tell whether there was one."""
        waits = [(asking[1], self.on_whom(asking)) for asking in self.waiting]
        holder = last_in_ring(waits)
        if holder == "":
            return False
        lock = self.asking_of(holder)[2]
        self.leave_row(holder)
        self.logged.append(("broken", self.now, holder, lock, tuple(ring_of(waits, holder))))
        return True

    def leave_row(self, holder):
        self.waiting = [asking for asking in self.waiting if asking[1] != holder]

    def asking_of(self, holder):
        """Tell the asking of a holder in the row; None if it has none."""
        for asking in self.waiting:
            if asking[1] == holder:
                return asking
        return None

    def on_whom(self, asking):
        """Tell the holder on whom an asking of the row waits; the empty text if it waits on nobody."""
        if not self.is_free(asking):
            named = self.council.named(asking[1], asking[2], asking[3], self.now)
            if named != "":
                return named
        # Free but not given, or with too few keepers up: only the row can be in its way.
        return ahead(self.waiting, asking[1])

    def back(self, holder, lock):
        """Give a lock back; tell the keepers that dropped it."""
        self.check_holder(holder)
        self.check_lock(lock)
        self.check_awake(holder)
        self.check_carries(holder, lock)
        number = self.carries.pop((holder, lock))[0]
        droppers = self.council.drop(number, self.now)
        self.logged.append(("back", self.now, holder, lock, number))
        self.settle()
        return droppers

    def write(self, holder, lock, store, value):
        """Write with the number that a holder carries, run out or not; tell whether the store took it."""
        self.check_holder(holder)
        self.check_lock(lock)
        self.check_store(store)
        self.check_awake(holder)
        self.check_carries(holder, lock)
        carry = self.carries[(holder, lock)]
        if carry[2]:
            raise ReadersOnly("the holder carries this lock shared")
        chosen = self.stores[store]
        if chosen.take(carry[0], holder, lock, value):
            self.logged.append(("taken", self.now, holder, lock, carry[0], store, value))
            return True
        self.logged.append(("stale", self.now, holder, lock, carry[0], store, value, chosen.top))
        return False

    def pause(self, holder):
        """Let a holder sleep until it wakes."""
        self.check_holder(holder)
        self.check_awake(holder)
        if self.pauses >= MOST_PAUSES:
            raise PausesSpent("the world has had all its pauses")
        self.pauses += 1
        self.asleep_since[holder] = self.now
        self.logged.append(("pause", self.now, holder))

    def wake(self, holder):
        """Wake a holder; tell (lock, number, end, what became of it) for each lock that it carries, by number."""
        self.check_holder(holder)
        if holder not in self.asleep_since:
            raise Awake("the holder does not sleep")
        self.logged.append(("wake", self.now, holder, self.asleep_since.pop(holder)))
        return [(carry[1], carry[0], carry[3], self.became(carry)) for carry in self.carried(holder)]

    def became(self, carry):
        """Tell what became of a lock that is carried."""
        if carry[3] <= self.now:
            return "run out"
        if carry[0] in [held[0] for held in self.council.having(carry[1], self.now)]:
            return "kept"
        return "unsettled"

    def fall(self, keeper):
        """Let a keeper fall; tell whether it was up."""
        return self.turned("fall", keeper, self.council.fall(keeper))

    def rise(self, keeper):
        """Let a keeper rise; tell whether it was down."""
        return self.turned("rise", keeper, self.council.rise(keeper))

    def turned(self, kind, keeper, changed):
        """Log a fall or rise and settle behind it, if it changed something; tell whether it did."""
        if changed:
            self.logged.append((kind, self.now, keeper))
            self.settle()
        return changed

    def tick(self, many):
        """Let ticks pass one by one; tell the tick that it is then."""
        check_time(many)
        for step in range(many):
            self.now += 1
            # A row that is settled stays so until a note runs out, so at other ticks there is nothing to do.
            if self.now in self.ends:
                self.settle()
        return self.now

    def carried(self, holder):
        """Tell what a holder carries as (number, lock, shared, end), by number."""
        self.check_holder(holder)
        return sorted([carry for key, carry in self.carries.items() if key[0] == holder])

    def row(self):
        """Tell the askings that wait."""
        return list(self.waiting)

    def waits_on(self, holder):
        """Tell on whom a holder waits; the empty text if on nobody."""
        self.check_holder(holder)
        asking = self.asking_of(holder)
        return "" if asking is None else self.on_whom(asking)

    def chain(self, holder):
        """Tell the names from a holder on, each waiting on the one behind it."""
        self.check_holder(holder)
        return chain_of([(asking[1], self.on_whom(asking)) for asking in self.waiting], holder)

    def having(self, lock):
        """Tell who has a lock by the keepers' word."""
        self.check_lock(lock)
        return self.council.having(lock, self.now)

    def free_by(self, lock):
        """Tell the keepers by which a lock is free."""
        self.check_lock(lock)
        return self.council.free_by(lock, self.now)

    def notes(self, keeper):
        """Tell the live notes of a keeper."""
        return self.council.notes(keeper, self.now)

    def ups(self):
        """Tell the keepers that are up."""
        return self.council.ups()

    def sleepers(self):
        """Tell who sleeps, by name."""
        return sorted(self.asleep_since)

    def taken(self, store):
        """Tell the writes that a store took."""
        self.check_store(store)
        return self.stores[store].taken()

    def log(self):
        """Tell what happened."""
        return list(self.logged)
