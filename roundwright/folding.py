"""Folding: places of a web that another place can stand for are left out until none is."""

from heapq import heappop, heappush

from roundwright.basics import bits_of, least_of, numbers_of
from roundwright.colours import PairSplit
from roundwright.webs import Web, check_web, check_webs, loops_of, web_columns, web_rows


class Fold:
    """A web of which places are left out, one by one; some wait to be looked at, since they may fold."""

    def __init__(self, web):
        self.rows = web_rows(web)
        self.columns = web_columns(web)
        self.loops = bits_of(loops_of(web))
        self.left = (1 << web.size) - 1
        self.waiting = list(range(web.size))
        self.waits = [True] * web.size

    def least_goal(self, place):
        """The least place left to which a place folds, None if there is none."""
        own = 1 << place
        held = self.left & ~own
        if self.loops & own:
            held = held & self.loops
        for other in numbers_of(self.rows[place] & self.left & ~own):
            held = held & self.columns[other]
        for other in numbers_of(self.columns[place] & self.left & ~own):
            held = held & self.rows[other]
        return least_of(held) if held else None

    def leave_out(self, place):
        """Leave a place out; those beside it have fewer pairs then, and may fold."""
        self.left = self.left & ~(1 << place)
        for one in numbers_of((self.rows[place] | self.columns[place]) & self.left):
            if not self.waits[one]:
                self.waits[one] = True
                heappush(self.waiting, one)

    def fold_all(self):
        """The list of the pairs of a place and of the one to which it was folded, in their sequence."""
        found = []
        while self.waiting:
            place = heappop(self.waiting)
            self.waits[place] = False
            goal = self.least_goal(place)
            if goal is not None:
                found.append((place, goal))
                self.leave_out(place)
        return found


def _folded(web):
    # The pairs folded, and the ascending list of the places left.
    fold = Fold(web)
    pairs = fold.fold_all()
    return pairs, numbers_of(fold.left)


def folds(web):
    """The tuple of the pairs of a place and of the one to which it folds, until none folds any more."""
    check_web(web)
    return tuple(_folded(web)[0])


def lean(web):
    """The web of the places that are left at the end."""
    check_web(web)
    number = {place: at for at, place in enumerate(_folded(web)[1])}
    pairs = [(number[one], number[other]) for one, other in web.pairs if one in number and other in number]
    return Web(len(number), pairs)


def lean_map(web):
    """The map from a web into its lean one: each place goes where its folds lead at last."""
    check_web(web)
    pairs, left = _folded(web)
    goes = {place: at for at, place in enumerate(left)}
    for place, goal in pairs[::-1]:
        goes[place] = goes[goal]
    return tuple([goes[place] for place in range(web.size)])


def renaming(one, other):
    """The least map from a web onto another one of as many places and pairs, None without one."""
    check_webs(one, other)
    if one.size != other.size or len(one.pairs) != len(other.pairs):
        return None
    split = PairSplit(one, other)
    return split.least_renaming()
