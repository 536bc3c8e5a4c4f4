"""One pause at every place: what comes of rows if one holder sleeps in between."""

from fencegate.player import play
from fencegate.reread import faults, refusals, writes

# The rows that a holder plays itself; one that only asks about it, as `chain` does, is not its own.
OWN_ROWS = ("ask", "back", "write", "pause", "wake")


def is_own(row, holder):
    words = row.split(" ")
    return words[0] in OWN_ROWS and words[1] == holder


def ticks_of(row):
    """Tell how many ticks pass with a row."""
    words = row.split(" ")
    return int(words[1]) if words[0] == "tick" else 0


def late(rows, place, holder, ticks):
    """Tell the rows with a pause of a holder at a place, its own rows held back until it wakes."""
    told = rows[:place] + [f"pause {holder}"]
    held_back = []
    lacking = ticks
    for later, row in enumerate(rows[place:], start=place + 1):
        if is_own(row, holder):
            held_back.append(row)
        else:
            told.append(row)
            lacking -= ticks_of(row)
        if lacking <= 0:
            return told + [f"wake {holder}"] + held_back + rows[later:]
    return told + [f"tick {lacking}", f"wake {holder}"] + held_back


def try_rows(setup, rows):
    """Play rows; tell how many writes were taken, how many a store refused, and how many faults are below."""
    log = play(setup, rows)[1].log()
    below = [fault for fault in faults(log) if fault[1] == "below"]
    return (len(writes(log)), len(refusals(log)), len(below))


def every_place(setup, rows, holder, ticks):
    """Tell what comes of one pause, place by place."""
    return [try_rows(setup, late(rows, place, holder, ticks)) for place in range(len(rows) + 1)]
