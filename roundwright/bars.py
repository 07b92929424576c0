"""Bars, which show that there is no map from a web into another one."""

from roundwright.barhunt import BarHunt
from roundwright.basics import is_within
from roundwright.mapchecks import can_have_map
from roundwright.maphunt import MapHunt
from roundwright.webs import check_webs, loops_of, web_columns, web_rows


class Judge:
    """Two webs, and what is left for each place of the first one behind some rows of a bar."""

    def __init__(self, one, other):
        self.size = one.size
        self.images = other.size
        self.pairs = {pair: True for pair in one.pairs}
        self.rows = web_rows(other)
        self.columns = web_columns(other)
        self.loops = {place: True for place in loops_of(other)}
        self.left = [(1 << other.size) - 1] * one.size
        self.empty = one.size if other.size == 0 else 0
        # What was taken, as pairs of a place and what it had; and for each "take" not ended where its part begins.
        self.taken = []
        self.begun = []

    def put(self, place, held):
        """Leave something else for a place."""
        self.taken.append((place, self.left[place]))
        self.change(place, held)

    def change(self, place, held):
        """Leave something else for a place, counting the places for which nothing is left."""
        self.empty = self.empty - (self.left[place] == 0) + (held == 0)
        self.left[place] = held

    def is_left(self, place, image):
        """Whether these are a place and an image left for it."""
        if not is_within(place, 0, self.size - 1) or not is_within(image, 0, self.images - 1):
            return False
        return self.left[place] >> image & 1 == 1

    def is_out(self, place, image, cause):
        """Whether an image left for a place has no counterpart left for the cause, a place too."""
        if not is_within(cause, 0, self.size - 1):
            return False
        if cause == place:
            return (place, place) in self.pairs and image not in self.loops
        if (place, cause) in self.pairs and self.rows[image] & self.left[cause] == 0:
            return True
        return (cause, place) in self.pairs and self.columns[image] & self.left[cause] == 0

    def end_take(self):
        """End the last "take": all is left as ahead of it, but not what it took."""
        start, place, image = self.begun.pop()
        while len(self.taken) > start:
            at, held = self.taken.pop()
            self.change(at, held)
        self.put(place, self.left[place] & ~(1 << image))

    def goes_on(self, row):
        """Whether a row is right now; if it is, it is gone through."""
        if not isinstance(row, tuple) or row == () or not isinstance(row[0], str):
            return False
        if row[0] == "out" and len(row) == 4:
            if not self.is_left(row[1], row[2]) or not self.is_out(row[1], row[2], row[3]):
                return False
            self.put(row[1], self.left[row[1]] & ~(1 << row[2]))
            return True
        if row[0] == "take" and len(row) == 3 and self.is_left(row[1], row[2]):
            self.begun.append((len(self.taken), row[1], row[2]))
            self.put(row[1], 1 << row[2])
            return True
        if row != ("back",) or not self.begun or self.empty == 0:
            return False
        self.end_take()
        return True


def is_map_bar(one, other, thing):
    """Whether a thing is a bar for a web and another one."""
    check_webs(one, other)
    if not isinstance(thing, tuple):
        return False
    judge = Judge(one, other)
    for row in thing:
        if not judge.goes_on(row):
            return False
    return judge.begun == [] and judge.empty > 0


def map_bar(one, other):
    """A bar for a web and another one, None if there is a map."""
    check_webs(one, other)
    if one.size > 0 and other.size == 0:
        return ()
    hunt = MapHunt(one, other)
    if can_have_map(one, other) and hunt.found([]) is not None:
        return None
    return BarHunt(one, other, hunt.weights).bar()
