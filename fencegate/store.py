"""A store that takes writes and refuses those that come too late."""


class Store:
    """Takes writes whose number is not below the greatest that it took one with."""

    def __init__(self):
        self.top = 0
        self.kept = []

    def take(self, number, holder, lock, value):
        """Take a write, or refuse one with a number below the top; tell whether it was taken."""
        if number < self.top:
            return False
        self.top = number
        self.kept.append((number, holder, lock, value))
        return True

    def taken(self):
        """Tell the writes (number, holder, lock, value) that it took, as they came."""
        return list(self.kept)
