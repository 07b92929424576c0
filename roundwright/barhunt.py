"""The hunt for bars: all images of some places are tried and shown to be none, row by row.

As in the hunt for maps, each time something is taken from what is left for a place this is noted down as an event.
Once a place has nothing left, only those events become rows of the bar of which this came; what was tried for
nothing is left out.
"""

from roundwright.basics import least_of, numbers_of
from roundwright.webpairs import WebPair

_TRIED = 0
_AHEAD = 1
_BEHIND = 2
_LOOP = 3
_SHOWN = 4
_FINE = 1000000000000
# So many places are looked at before an image is tried for one.
_LOOKED_AT = 10
# Where more images are left than so many for each, the place is taken as it comes.
_FEW = 40


class BarHunt(WebPair):
    """Two webs without a map from the first to the second, what is left for each place, and the events."""

    def __init__(self, one, other, weights):
        super().__init__(one, other)
        self.weights = [2 if weight else 1 for weight in weights]
        self.events = []
        self.of_place = [[] for _ in range(one.size)]
        self.held = [self.images] * one.size
        self.changed = list(range(one.size))
        # Where the events begin of each image that is tried.
        self.begun = []
        for place in self.looped:
            self.take(place, self.held[place] & ~self.loops, _LOOP, place)

    def take(self, place, dropped, kind, cause):
        """Take something from what is left for a place."""
        if dropped:
            self.of_place[place].append(len(self.events))
            self.events.append((place, dropped, kind, cause))
            self.held[place] = self.held[place] & ~dropped
            self.changed.append(place)

    def settle(self):
        """Take all that has no counterpart any more; None, or a place for which nothing is left."""
        at = 0
        while at < len(self.changed):
            place = self.changed[at]
            at += 1
            if self.held[place] == 0:
                return place
            for others, kind, allowed in ((self.behind[place], _AHEAD, self.led(self.held[place])),
                                          (self.ahead[place], _BEHIND, self.leading(self.held[place]))):
                for other in others:
                    dropped = self.held[other] & ~allowed
                    if dropped:
                        self.take(other, dropped, kind, place)
                        if self.held[other] == 0:
                            self.bump(place)
                            self.bump(other)
                            return other
        self.changed = []
        return None

    def bump(self, place):
        """Note down that a place had part in a dead end."""
        self.weights[place] += 1

    def undo(self, start):
        """Undo the events from a start on."""
        for place, dropped, _, _ in self.events[start:][::-1]:
            self.held[place] = self.held[place] | dropped
            self.of_place[place].pop()
        del self.events[start:]
        self.changed = []

    def cost(self, place):
        """How little is taken from other places if each image of a place is tried, by and large."""
        total = 0
        start = len(self.events)
        for image in numbers_of(self.held[place]):
            self.take(place, self.held[place] & ~(1 << image), _TRIED, 0)
            if self.settle() is None:
                many = len(self.events) - start
                total = total + _FINE // (many * many)
            self.undo(start)
        return total

    def open_place(self):
        """A place whose image is open: of some that had much part in dead ends the one of which most comes."""
        ranks = []
        for place, held in enumerate(self.held):
            if held & (held - 1):
                ranks.append((self.many(held) * _FINE // self.weights[place], place))
        ranks = sorted(ranks)
        place = ranks[0][1]
        if self.many(self.held[place]) <= _FEW:
            _, place = min([(self.cost(place), place) for _, place in ranks[:_LOOKED_AT]])
        return place

    def require(self, wanted, place, sets):
        """Note down in wanted the events that took these things from a place."""
        for number in self.of_place[place]:
            part = self.events[number][1] & sets
            if part:
                wanted[number] = wanted.get(number, 0) | part

    def told(self, number, part, wanted):
        """The rows, the last one first, that an event becomes of which a part is wanted; what they want is noted."""
        place, _, kind, cause = self.events[number]
        if kind == _SHOWN:
            for earlier, more in cause[1].items():
                wanted[earlier] = wanted.get(earlier, 0) | more
            return cause[0]
        if kind == _AHEAD:
            self.require(wanted, cause, self.leading(part))
        elif kind == _BEHIND:
            self.require(wanted, cause, self.led(part))
        return [("out", place, image, cause) for image in numbers_of(part)]

    def close(self, start, rows, wanted):
        """Put the rows wanted of the events from a start on behind those told, the last one first; undo the events."""
        for number in range(len(self.events) - 1, start - 1, -1):
            if number in wanted:
                rows.extend(self.told(number, wanted[number], wanted))
                del wanted[number]
        self.undo(start)

    def show(self, stuck):
        """Show that what is tried is none; the rows of the bar, the last one first, if this is so of all, or None."""
        rows = []
        wanted = {}
        self.require(wanted, stuck, -1)
        while self.begun:
            start = self.begun.pop()
            self.close(start + 1, rows, wanted)
            place, dropped, _, _ = self.events.pop()
            self.of_place[place].pop()
            image = self.held[place]
            self.held[place] = self.held[place] | dropped
            if start in wanted:
                del wanted[start]
                rows = [("back",)] + rows + [("take", place, least_of(image))]
                self.take(place, image, _SHOWN, (rows, wanted))
                return None
        self.close(0, rows, wanted)
        return rows

    def bar(self):
        """The tuple of the rows of a bar."""
        while True:
            stuck = self.settle()
            if stuck is not None:
                rows = self.show(stuck)
                if rows is not None:
                    return tuple(rows[::-1])
                continue
            place = self.open_place()
            held = self.held[place]
            self.begun.append(len(self.events))
            self.take(place, held & (held - 1), _TRIED, 0)
