"""The waiting row, and who waits on whom: chains and rings.

An asking is a tuple (tick, holder, lock, shared, time).
"""

from fencegate.paths import in_way


def put_in(row, asking):
    """Tell a new row with an asking at its place: by tick, then by the holder's name."""
    return sorted(row + [asking], key=lambda one: (one[0], one[1]))


def ahead(row, holder):
    """Tell the holder of the first asking that is ahead of a holder's and in its way; the empty text if none is."""
    names = [asking[1] for asking in row]
    if holder not in names:
        return ""
    place = names.index(holder)
    lock = row[place][2]
    shared = row[place][3]
    for other in row[:place]:
        if in_way(lock, shared, other[2], other[3]):
            return other[1]
    return ""


def chain_of(waits, name):
    """Tell the names from one on, each waiting on the one behind it, with no name twice."""
    waits_for = dict(waits)
    chain = []
    while name != "" and name not in chain:
        chain.append(name)
        name = waits_for.get(name, "")
    return chain


def ring_of(waits, name):
    """Tell the ring in which a name stands, from it on; the empty list if it stands in none."""
    chain = chain_of(waits, name)
    # A chain may lead into a ring that its first name is no part of; then its last waits on a later one.
    if chain != [] and dict(waits).get(chain[-1], "") == name:
        return chain
    return []


def last_in_ring(waits):
    """Tell the last asker of the list that stands in a ring; the empty text if none does."""
    for asker, on in reversed(waits):
        if ring_of(waits, asker) != []:
            return asker
    return ""
