"""The refusals: one class each, straight under GateError."""


class GateError(ValueError):
    """Any refusal."""

    # The base has a word too, so that whoever takes a GateError may ask for it without knowing the class.
    def word(self):
        return "gate"


class BadSetup(GateError):
    """A world's setup breaks its bounds."""

    def word(self):
        return "setup"


class UnknownHolder(GateError):
    """No holder has this name."""

    def word(self):
        return "holder"


class UnknownLock(GateError):
    """No lock has this path."""

    def word(self):
        return "lock"


class UnknownStore(GateError):
    """No store has this name."""

    def word(self):
        return "store"


class UnknownKeeper(GateError):
    """No keeper has this number."""

    def word(self):
        return "keeper"


class BadTime(GateError):
    """The count of ticks is no time."""

    def word(self):
        return "time"


class Asleep(GateError):
    """The holder sleeps."""

    def word(self):
        return "asleep"


class Awake(GateError):
    """The holder does not sleep."""

    def word(self):
        return "awake"


class PausesSpent(GateError):
    """The world has had all its pauses."""

    def word(self):
        return "pauses"


class Waiting(GateError):
    """The holder waits already."""

    def word(self):
        return "waiting"


class Holding(GateError):
    """The holder carries this lock, not run out."""

    def word(self):
        return "holding"


class NotShared(GateError):
    """The lock may not be shared."""

    def word(self):
        return "not shared"


class NotHeld(GateError):
    """The holder does not carry this lock."""

    def word(self):
        return "not held"


class ReadersOnly(GateError):
    """The holder carries this lock shared, and so may not write with it."""

    def word(self):
        return "readers only"


class Down(GateError):
    """The keeper is down."""

    def word(self):
        return "down"


class OldNumber(GateError):
    """The number is not above the keeper's top."""

    def word(self):
        return "old number"


class InTheWay(GateError):
    """Another holder's live note is in the way."""

    def word(self):
        return "in the way"


class NotFree(GateError):
    """The asking is not free by the council."""

    def word(self):
        return "not free"
