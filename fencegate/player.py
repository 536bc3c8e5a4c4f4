"""The player: a world played from rows of words, with an answer in words to each."""

from fencegate.errors import GateError
from fencegate.world import World


def say(parts):
    """Tell words, numbers and names as one text with a blank between each two."""
    return " ".join([str(part) for part in parts])


def play_ask(world, words):
    told = world.ask(words[1], words[2], words[3] == "shared", int(words[4]))
    if told[0] == "given":
        return say(["given", told[1], "until", told[2]])
    return say([told[0]] + told[1])


def play_back(world, words):
    droppers = world.back(words[1], words[2])
    return say(["back"] + droppers) if droppers != [] else "back none"


def play_write(world, words):
    return "taken" if world.write(words[1], words[2], words[3], int(words[4])) else "stale"


def play_pause(world, words):
    world.pause(words[1])
    return "asleep"


def play_wake(world, words):
    carried = world.wake(words[1])
    if carried == []:
        return "awake with none"
    return say(["awake"] + [say(list(carry)) for carry in carried])


def play_fall(world, words):
    return "down" if world.fall(int(words[1])) else "as it was"


def play_rise(world, words):
    return "up" if world.rise(int(words[1])) else "as it was"


def play_tick(world, words):
    return say(["tick", world.tick(int(words[1]))])


def say_held(held):
    """Tell one that has a lock: (number, holder, shared, end, keepers)."""
    return say([held[1], held[0], "until", held[3], "by"] + held[4])


def play_who(world, words):
    having = world.having(words[1])
    if having != []:
        return say(["held"] + [say_held(held) for held in having])
    free_by = world.free_by(words[1])
    return say(["free by"] + free_by) if free_by != [] else "neither"


def play_chain(world, words):
    return say(["chain"] + world.chain(words[1]))


def play_store(world, words):
    taken = world.taken(words[1])
    if taken == []:
        return "empty"
    # A store takes no number below its top, so the last that it took came with the top.
    return say(["top", taken[-1][0], "value", taken[-1][3]])


PLAYS = {
    "ask": play_ask,
    "back": play_back,
    "write": play_write,
    "pause": play_pause,
    "wake": play_wake,
    "fall": play_fall,
    "rise": play_rise,
    "tick": play_tick,
    "who": play_who,
    "chain": play_chain,
    "store": play_store,
}


def answer(world, row):
    """Play one row; tell its answer."""
    words = row.split(" ")
    chosen = PLAYS[words[0]]
    try:
        return chosen(world, words)
    except GateError as refusal:
        return "refused: " + refusal.word()


def play(setup, rows):
    """Play rows in a new world; tell the answers and the world."""
    world = World(setup[0], setup[1], setup[2], setup[3], setup[4])
    return ([answer(world, row) for row in rows], world)
