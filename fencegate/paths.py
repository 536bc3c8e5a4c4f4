"""Names, the paths of locks, and which holdings are in each other's way."""

MOST_TIME = 1000
MOST_PAUSES = 20

MOST_SIGNS = 8
MOST_NAMES = 4
NAME_SIGNS = "abcdefghijklmnopqrstuvwxyz0123456789"


def good_name(text):
    """Tell whether a text is a name."""
    return 1 <= len(text) <= MOST_SIGNS and all([sign in NAME_SIGNS for sign in text])


def good_path(text):
    """Tell whether a text is a lock's path."""
    names = text.split("/")
    return len(names) <= MOST_NAMES and all([good_name(name) for name in names])


def within(inner, outer):
    """Tell whether the lock `inner` lies within the lock `outer`."""
    # Whole names are compared: by the texts alone, `ab` would seem to begin with `a`.
    outer_names = outer.split("/")
    return inner.split("/")[:len(outer_names)] == outer_names


def on_line(one, other):
    """Tell whether one of two locks lies within the other."""
    return within(one, other) or within(other, one)


def in_way(lock, shared, other, other_shared):
    """Tell whether two holdings or askings are in each other's way."""
    return on_line(lock, other) and not (shared and other_shared)
