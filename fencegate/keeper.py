"""One keeper: the notes of who holds what, by number, until when."""

from fencegate.errors import Down, InTheWay, OldNumber
from fencegate.paths import in_way


class Keeper:
    """Keeps notes (number, holder, lock, shared, end), which outlast its falls."""

    def __init__(self):
        self.up = True
        self.top = 0
        # A note's number is above all earlier ones, so this list is ordered by number without sorting.
        self.kept = []

    def fall(self):
        self.up = False

    def rise(self):
        self.up = True

    def live(self, tick):
        """Tell the live notes by number, the least first."""
        return [note for note in self.kept if tick < note[4]]

    def names_in_way(self, holder, lock, shared, tick):
        """Tell the other holders with live notes in the asking's way, each once, by name."""
        others = [note for note in self.live(tick) if note[1] != holder]
        return sorted(set([note[1] for note in others if in_way(lock, shared, note[2], note[3])]))

    def says_free(self, holder, lock, shared, tick):
        """Tell whether no live note of another holder is in the asking's way."""
        return self.names_in_way(holder, lock, shared, tick) == []

    def take(self, number, holder, lock, shared, tick, time):
        """Take a note, in the place of the same holder's older one for the same lock."""
        if not self.up:
            raise Down("the keeper is down")
        if number <= self.top:
            raise OldNumber("the number is not above the keeper's top")
        if not self.says_free(holder, lock, shared, tick):
            raise InTheWay("another holder's live note is in the way")
        others = [note for note in self.kept if (note[1], note[2]) != (holder, lock)]
        self.kept = others + [(number, holder, lock, shared, tick + time)]
        self.top = number

    def drop(self, number, tick):
        """Drop the live note of a number; tell whether there was one to drop."""
        if not self.up or number not in [note[0] for note in self.live(tick)]:
            return False
        self.kept = [note for note in self.kept if note[0] != number]
        return True
