"""What several test files share: worlds behind steps, and all that can be asked of a world."""

import random

from fencegate.errors import GateError
from fencegate.world import World


def ask(holder, lock, shared=False, time=100):
    """A step of `done`, with the values that most tests don't care for."""
    return ("ask", holder, lock, shared, time)


def done(world, *steps):
    """What a world tells to steps such as ("ask", "ann", "a", False, 10), in their order."""
    return [getattr(world, step[0])(*step[1:]) for step in steps]


def world_with(setup, *steps):
    """A new world behind steps."""
    world = World(*setup)
    done(world, *steps)
    return world


def everything(world, setup):
    """All that can be asked of a world of this setup."""
    keepers, holders, locks, shared, stores = setup
    return {
        "now": world.now,
        "row": world.row(),
        "ups": world.ups(),
        "sleepers": world.sleepers(),
        "log": world.log(),
        "carried": [world.carried(holder) for holder in holders],
        "waits_on": [world.waits_on(holder) for holder in holders],
        "chain": [world.chain(holder) for holder in holders],
        "having": [world.having(lock) for lock in locks],
        "free_by": [world.free_by(lock) for lock in locks],
        "notes": [world.notes(keeper) for keeper in range(1, keepers + 1)],
        "taken": [world.taken(store) for store in stores],
    }


def outcome(world, step):
    """What a step tells, or the class with which it is refused."""
    try:
        return done(world, step)[0]
    except GateError as refusal:
        return type(refusal)


def random_setup(chance):
    """A setup with few names, so that holders come into each other's way."""
    locks = chance.sample(["a", "a/x", "a/y", "a/x/z", "b", "c", "ab"], chance.randint(1, 5))
    shared = [lock for lock in locks if chance.random() < 0.6]
    return (chance.randint(1, 5), ["ann", "bob", "cid", "dan"][:chance.randint(1, 4)], locks, shared, ["s", "t"])


def random_step(chance, setup):
    """One event, often one that is refused."""
    keepers, holders, locks, shared, stores = setup
    kind = chance.choice(["ask"] * 8 + ["back", "write", "tick"] * 3 + ["fall", "rise"] * 2 + ["pause", "wake"])
    holder = chance.choice(holders * 6 + ["zed"])
    lock = chance.choice(locks * 6 + ["z"])
    if kind == "ask":
        return (kind, holder, lock, chance.random() < 0.4, chance.choice([1, 2, 3, 5, 8, 13, 40, 1000, 0, 1001]))
    if kind == "back":
        return (kind, holder, lock)
    if kind == "write":
        return (kind, holder, lock, chance.choice(stores * 6 + ["u"]), chance.randint(0, 99))
    if kind in ["fall", "rise"]:
        return (kind, chance.randint(0, keepers + 1))
    if kind == "tick":
        return (kind, chance.choice([1, 1, 1, 2, 3, 7, 0]))
    return (kind, holder)


def random_worlds(count, steps):
    """Worlds behind random steps, each with its setup; the same ones in each run."""
    for seed in range(count):
        chance = random.Random(seed)
        setup = random_setup(chance)
        world = World(*setup)
        for step in range(steps):
            outcome(world, random_step(chance, setup))
        yield setup, world
