"""Rows of places of a web: as many as can be that all lead to one another, or each to all later ones."""

from roundwright.basics import least_of, numbers_of
from roundwright.webs import check_web, loops_of, web_columns, web_rows


def _size(held):
    # How many numbers a set has.
    return f"{held:b}".count("1")


class RowSearch:
    """Places that lead to places; a row is of places of which each leads to all later ones.

    What was found out of a set of places is kept: how many a row within it has at least, and how many at most. After
    so many tries (without end, if they are below 0) rows are taken to be as long as is asked.
    """

    def __init__(self, rows, columns, tries):
        self.tries = tries
        self.rows = rows
        self.columns = columns
        self.beside = [row | column for row, column in zip(rows, columns)]
        self.both = rows == columns
        self.least = {}
        self.most = {}

    def reached(self, leads, held, place):
        """All of a set to which steps lead from a place, each to one to which the step before does not lead."""
        found = 1 << place
        edge = found
        while edge:
            further = 0
            for one in numbers_of(edge):
                further = further | held & ~leads[one]
            edge = further & ~found
            found = found | further
        return found

    def parted(self, held):
        """A set parted so that rows of the parts can always be put together."""
        found = []
        waiting = [held]
        while waiting:
            some = waiting.pop()
            if some == 0:
                continue
            place = least_of(some)
            after = self.reached(self.rows, some, place)
            ahead = after if self.both else self.reached(self.columns, some, place)
            found.append(after & ahead)
            waiting.extend([after & ~ahead, ahead & ~after, some & ~after & ~ahead])
        return found

    def colours(self, held):
        """The places of a set in groups, as a list of lists; no two of a group are beside each other."""
        found = []
        while held:
            group = []
            open_places = held
            while open_places:
                place = least_of(open_places)
                group.append(place)
                open_places = open_places & ~self.beside[place] & ~(1 << place)
                held = held & ~(1 << place)
            found.append(group)
        return found

    def reaches(self, held, need):
        """Whether a row within a set has at least so many places."""
        if need <= self.least.get(held, 0):
            return True
        if need > self.most.get(held, _size(held)):
            return False
        parts = self.parted(held)
        found = self.tried(held, need) if len(parts) == 1 else self.size_of_parts(parts) >= need
        if found:
            self.least[held] = need
        else:
            self.most[held] = need - 1
        return found

    def size_of_parts(self, parts):
        """How many places the greatest row has that is put together of rows of the parts."""
        return sum([self.row_size(part) for part in parts])

    def row_size(self, held):
        """How many places the greatest row within a set has."""
        many = self.least.get(held, 0)
        while self.reaches(held, many + 1):
            many += 1
        return many

    def tried(self, held, need):
        """As reaches, by trying which place comes first."""
        groups = self.colours(held)
        if len(groups) < need:
            return False
        if self.tries == 0:
            return True
        self.tries -= 1
        # Where all lead both ways the sequence does not matter, and a place of one of the last groups is needed.
        last = [place for group in groups[need - 1:] for place in group][::-1]
        for place in last if self.both else self.firsts(held, need):
            if self.reaches(held & self.rows[place], need - 1):
                return True
            if self.both:
                held = held & ~(1 << place)
        return False

    def firsts(self, held, need):
        """The places of a set that lead to enough others to come first, those that lead to most first."""
        many = [(-_size(held & self.rows[place]), place) for place in numbers_of(held)]
        return [place for less, place in sorted(many) if less <= 1 - need]

    def least_row(self, held, need):
        """The least row of so many places within a set that has one."""
        found = []
        while need > 0:
            need -= 1
            for place in numbers_of(held):
                if self.reaches(held & self.rows[place], need):
                    found.append(place)
                    held = held & self.rows[place]
                    break
        return tuple(found)


def _least_row(web, rows, columns):
    if loops_of(web):
        return None
    search = RowSearch(rows, columns, -1)
    full = (1 << web.size) - 1
    return search.least_row(full, search.row_size(full))


def _both_ways(web):
    return [row & column for row, column in zip(web_rows(web), web_columns(web))]


def some_beside(web, many):
    """The least ascending tuple of so many places of a web without loops that all lead to one another; or None."""
    both = _both_ways(web)
    search = RowSearch(both, both, -1)
    full = (1 << web.size) - 1
    return search.least_row(full, many) if search.reaches(full, many) else None


def most_beside(web):
    """The least ascending tuple of as many places as can be that all lead to one another; None if there is a loop."""
    check_web(web)
    both = _both_ways(web)
    return _least_row(web, both, both)


def most_in_row(web):
    """The least tuple of as many places as can be of which each leads to all later ones; None if there is a loop."""
    check_web(web)
    return _least_row(web, web_rows(web), web_columns(web))
