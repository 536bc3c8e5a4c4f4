"""Reading a log again, with nothing else at hand.

Rows that are read here by their places:
given (1 tick, 2 holder, 3 lock, 4 shared, 5 number, 6 end), back (1 tick, 2 holder, 3 lock, 4 number),
taken and stale (2 holder, 3 lock, 4 number, 5 store, 6 value).
"""

from fencegate.paths import in_way


def gives_back(row, given):
    """Tell whether a row gives back what a given row gave."""
    return row[0] == "back" and (row[4], row[2], row[3]) == (given[5], given[2], given[3])


def finish_of(given, behind):
    """Tell the tick from which on a grant is over, by the rows behind its given row."""
    for row in behind:
        if gives_back(row, given):
            return min(row[1], given[6])
    return given[6]


def grants(log):
    """Tell (number, holder, lock, shared, start, finish) for each given row."""
    told = []
    for place, row in enumerate(log):
        if row[0] == "given":
            told.append((row[5], row[2], row[3], row[4], row[1], finish_of(row, log[place + 1:])))
    return told


def line_of(log, lock):
    """Tell the grants of one lock."""
    return [grant for grant in grants(log) if grant[2] == lock]


def write_in(row):
    """Tell the write of a taken or stale row."""
    return (row[4], row[2], row[3], row[5], row[6])


def writes(log):
    """Tell the writes (number, holder, lock, store, value) that stores took, by number."""
    took = [write_in(row) for row in log if row[0] == "taken"]
    # Sorting leaves those of one number as they came.
    return sorted(took, key=lambda one: one[0])


def took_at(rows, store):
    """Tell the taken rows of a store."""
    return [row for row in rows if row[0] == "taken" and row[5] == store]


def overtaker(took):
    """Tell the greatest number of a store's taken rows, and who came with it first."""
    if took == []:
        return (0, "")
    # Of rows with one number, max tells the first.
    greatest = max(took, key=lambda row: row[4])
    return (greatest[4], greatest[2])


def refusals(log):
    """Tell (number, holder, lock, store, value, seen, by) for each write that a store refused."""
    told = []
    for place, row in enumerate(log):
        if row[0] == "stale":
            told.append(write_in(row) + overtaker(took_at(log[:place], row[5])))
    return told


def given_faults(row, before, unreturned):
    """Tell the faults of a given row."""
    kinds = []
    if any([row[5] <= other[5] for other in before if other[0] == "given"]):
        kinds.append("number")
    live = [other for other in unreturned if other[2] != row[2] and row[1] < other[6]]
    if any([in_way(row[3], row[4], other[3], other[4]) for other in live]):
        kinds.append("two")
    return kinds


def was_given(row, before):
    """Tell whether the number of a write was given to its holder for its lock."""
    wanted = (row[4], row[2], row[3])
    return wanted in [(other[5], other[2], other[3]) for other in before if other[0] == "given"]


def is_below(row, before):
    """Tell whether a write's store took a greater number already."""
    return any([row[4] < other[4] for other in took_at(before, row[5])])


def faults_of(row, before, unreturned):
    """Tell the kinds of fault of a row, by the rows before it and the given rows of them that no back row ended."""
    if row[0] == "given":
        return given_faults(row, before, unreturned)
    kinds = []
    if row[0] == "taken" and not was_given(row, before):
        kinds.append("stranger")
    if row[0] == "taken" and is_below(row, before):
        kinds.append("below")
    if row[0] == "stale" and not is_below(row, before):
        kinds.append("needless")
    return kinds


def faults(log):
    """Tell (place, kind) for each fault."""
    told = []
    unreturned = []
    for place, row in enumerate(log):
        told.extend([(place, kind) for kind in faults_of(row, log[:place], unreturned)])
        if row[0] == "given":
            unreturned.append(row)
        else:
            unreturned = [given for given in unreturned if not gives_back(row, given)]
    return told
