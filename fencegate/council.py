"""Several keepers, and what a majority of them says."""

from fencegate.errors import NotFree, UnknownKeeper
from fencegate.keeper import Keeper
from fencegate.paths import on_line


class Council:
    """Keepers, numbered from 1; a lock is given by those that say it is free, if they are a majority."""

    def __init__(self, many):
        self.keepers = [Keeper() for place in range(many)]
        # More than half of all: those that are down are counted, so any two majorities have a keeper in common.
        self.most = len(self.keepers) // 2 + 1

    def keeper_at(self, place):
        """Tell the keeper of a number."""
        if not 1 <= place <= len(self.keepers):
            raise UnknownKeeper("no keeper has this number")
        return self.keepers[place - 1]

    def up_keepers(self):
        """Tell the keepers that are up as pairs (its number, keeper), the least number first."""
        return [(place, keeper) for place, keeper in enumerate(self.keepers, start=1) if keeper.up]

    def fall(self, keeper):
        """Let a keeper fall; tell whether that changed something."""
        chosen = self.keeper_at(keeper)
        was_up = chosen.up
        chosen.fall()
        return was_up

    def rise(self, keeper):
        """Let a keeper rise; tell whether that changed something."""
        chosen = self.keeper_at(keeper)
        was_up = chosen.up
        chosen.rise()
        return not was_up

    def ups(self):
        """Tell the numbers of the keepers that are up."""
        return [place for place, keeper in self.up_keepers()]

    def notes(self, keeper, tick):
        """Tell the live notes of a keeper, whether it is up or down."""
        return self.keeper_at(keeper).live(tick)

    def sayers(self, holder, lock, shared, tick):
        """Tell the keepers that are up and say that an asking is free."""
        return [place for place, keeper in self.up_keepers() if keeper.says_free(holder, lock, shared, tick)]

    def give(self, holder, lock, shared, tick, time):
        """Give a lock by its sayers; tell its number and them."""
        sayers = self.sayers(holder, lock, shared, tick)
        if len(sayers) < self.most:
            raise NotFree("no majority says that it is free")
        number = 1 + max([keeper.top for place, keeper in self.up_keepers()])
        for place in sayers:
            self.keeper_at(place).take(number, holder, lock, shared, tick, time)
        return (number, sayers)

    def drop(self, number, tick):
        """Drop a number at all keepers that are up; tell those that had a live note of it."""
        droppers = []
        for place, keeper in self.up_keepers():
            if keeper.drop(number, tick):
                droppers.append(place)
        return droppers

    def having(self, lock, tick):
        """Tell (number, holder, shared, end, keepers) for each number by which a majority says that lock is held."""
        places = {}
        for place, keeper in self.up_keepers():
            for note in keeper.live(tick):
                if note[2] == lock:
                    places[note] = places.get(note, []) + [place]
        # Notes of one number are equal at all keepers, as no number is given twice; so the order is by number.
        held = [note for note in sorted(places) if len(places[note]) >= self.most]
        return [(note[0], note[1], note[3], note[4], places[note]) for note in held]

    def free_by(self, lock, tick):
        """Tell the keepers that are up and have no live note on a lock's line, if they are a majority."""
        places = []
        for place, keeper in self.up_keepers():
            if not any([on_line(lock, note[2]) for note in keeper.live(tick)]):
                places.append(place)
        return places if len(places) >= self.most else []

    def named(self, holder, lock, shared, tick):
        """Tell the other holder whom the most keepers name as in an asking's way; the empty text if none does."""
        counts = {}
        for place, keeper in self.up_keepers():
            for name in keeper.names_in_way(holder, lock, shared, tick):
                counts[name] = counts.get(name, 0) + 1
        # The greatest count has the least negative, so one least pair settles the ties by name, too.
        return min(list(counts), key=lambda other: (-counts[other], other), default="")
