"""The search for maps: each place of one web gets a place of another one, so that pairs go to pairs.

What is left for a place is kept as a set in bits. The search goes on as if each group of places that hang together
were alone, and keeps what came of each group with the same sets left: so like cases are gone through once.
"""

from roundwright.basics import bits_of, columns_of, numbers_of, rows_of, spread

# Ratios are compared as whole numbers of such parts.
_FINE = 1000000


class MapSearch:
    """A web of so many places with its pairs, another one likewise, and what was found out about maps between them."""

    def __init__(self, size, pairs, other_size, other_pairs):
        self.behind = [[] for _ in range(size)]
        self.ahead = [[] for _ in range(size)]
        for one, other in pairs:
            self.behind[one].append(other)
            self.ahead[other].append(one)
        self.weights = [{other: 1 for other in self.behind[at] + self.ahead[at]} for at in range(size)]
        self.width = other_size
        self.full = (1 << other_size) - 1
        self.loops = sum([1 << one for one, other in other_pairs if one == other])
        self.rows = rows_of(other_size, other_pairs)
        self.columns = columns_of(other_size, other_pairs)
        self.spread_rows = {}
        self.spread_columns = {}
        self.known = {}

    def led(self, held):
        """The set of what the places of a set lead to."""
        if held not in self.spread_rows:
            self.spread_rows[held] = spread(self.rows, held)
        return self.spread_rows[held]

    def leading(self, held):
        """The set of what leads to the places of a set."""
        if held not in self.spread_columns:
            self.spread_columns[held] = spread(self.columns, held)
        return self.spread_columns[held]

    def first_sets(self):
        """For each place what it can get, whatever the others get; None if some place can get nothing."""
        held = []
        for place, others in enumerate(self.behind):
            held.append(self.full & self.loops if place in others else self.full)
        if 0 in held or not self.settle(held, list(range(len(held)))):
            return None
        return held

    def settle(self, held, changed):
        """Take from the sets what has no counterpart at a neighbour any more; whether each place has something left."""
        waiting = list(changed)
        while waiting:
            place = waiting.pop()
            for others, allowed in ((self.behind[place], self.led(held[place])),
                                    (self.ahead[place], self.leading(held[place]))):
                for other in others:
                    left = held[other] & allowed
                    if left != held[other]:
                        held[other] = left
                        waiting.append(other)
                        if left == 0:
                            self.weights[place][other] += 1
                            self.weights[other][place] += 1
                            return False
        return True

    def chosen(self, held, place, number):
        """The sets left if a place gets this number; None if then some place can get nothing."""
        found = list(held)
        found[place] = 1 << number
        return found if self.settle(found, [place]) else None

    def solved(self, held, places):
        """The sets of a map within those held, which are settled, one number left at each place; None without one."""
        found = list(held)
        for group in self.groups(held, [place for place in places if held[place] & (held[place] - 1)]):
            parts = self.solved_group(found, group)
            if parts is None:
                return None
            for place, part in zip(group, parts):
                found[place] = part
        return found

    def groups(self, held, places):
        """The places parted into ascending lists of such as hang together by pairs among them."""
        wanted = {place: True for place in places}
        found = []
        for place in places:
            if not wanted[place]:
                continue
            wanted[place] = False
            group = [place]
            waiting = [place]
            while waiting:
                one = waiting.pop()
                for other in self.behind[one] + self.ahead[one]:
                    if other in wanted and wanted[other]:
                        wanted[other] = False
                        group.append(other)
                        waiting.append(other)
            found.append(sorted(group))
        return found

    def solved_group(self, held, group):
        """What solved leaves at the places of a group, as a list; None if there is nothing."""
        sets = 0
        for place in group:
            sets = sets << self.width | held[place]
        key = (bits_of(group), sets)
        if key not in self.known:
            self.known[key] = self.tried(held, group, self.full)
        return self.known[key]

    def some_map(self, held, leaders):
        """As solved, for the first sets; leaders has one number at least of all that are alike in the other web."""
        found = list(held)
        for group in self.groups(held, list(range(len(held)))):
            parts = self.tried(held, group, leaders)
            if parts is None:
                return None
            for place, part in zip(group, parts):
                found[place] = part
        return found

    def burden(self, held, place):
        """How often it failed between a place and the neighbours that are still open, at least 1."""
        return max(1, sum([many for other, many in self.weights[place].items() if held[other] & (held[other] - 1)]))

    def tried(self, held, group, leaders):
        """As solved_group: each of the leaders is tried at a place where few are left and much failed before."""
        _, place = min([(len(numbers_of(held[at])) * _FINE // self.burden(held, at), at) for at in group])
        for number in numbers_of(held[place] & leaders):
            sets = self.chosen(held, place, number)
            found = None if sets is None else self.solved(sets, group)
            if found is not None:
                return [found[at] for at in group]
        return None


def least_map(size, pairs, other_size, other_pairs, leaders):
    """The least map of a web into another one as a list, None without one.

    The leaders are a set of places of the other web: each of its places can be made a leader by a renaming of the
    other web that keeps its pairs. So if there is a map, there is one with a leader at the place that is tried first.
    """
    search = MapSearch(size, pairs, other_size, other_pairs)
    places = list(range(size))
    held = search.first_sets()
    sample = None if held is None else search.some_map(held, leaders)
    if sample is None:
        return None
    for place in places:
        for number in numbers_of(held[place]):
            sets = search.chosen(held, place, number)
            found = None
            if sets is not None:
                found = sample if sample[place] == 1 << number else search.solved(sets, places)
            if found is not None:
                held = sets
                sample = found
                break
    return [numbers_of(left)[0] for left in held]
