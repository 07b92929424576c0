"""Two webs between which maps are hunted: who stands beside whom, and where sets of images lead."""

from roundwright.basics import columns_of, rows_of, spread


class WebPair:
    """A web and another one; what places of the other one lead to is worked out once for each set of them."""

    def __init__(self, one, other):
        self.behind = [[] for _ in range(one.size)]
        self.ahead = [[] for _ in range(one.size)]
        self.looped = []
        for first, second in one.pairs:
            if first == second:
                self.looped.append(first)
            else:
                self.behind[first].append(second)
                self.ahead[second].append(first)
        self.images = (1 << other.size) - 1
        self.loops = sum([1 << first for first, second in other.pairs if first == second])
        self.rows = rows_of(other.size, other.pairs)
        self.columns = columns_of(other.size, other.pairs)
        self.led_known = {}
        self.leading_known = {}
        self.sizes = {}

    def led(self, held):
        """The set of what the places of a set lead to."""
        if held not in self.led_known:
            self.led_known[held] = spread(self.rows, held)
        return self.led_known[held]

    def leading(self, held):
        """The set of what leads to the places of a set."""
        if held not in self.leading_known:
            self.leading_known[held] = spread(self.columns, held)
        return self.leading_known[held]

    def many(self, held):
        """How many places a set has."""
        if held not in self.sizes:
            self.sizes[held] = f"{held:b}".count("1")
        return self.sizes[held]
