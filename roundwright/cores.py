"""Cores: small trees whose roots can bear few labels, if all their houses bear labels of a set."""

from heapq import heappop, heappush

from roundwright.basics import bits_of
from roundwright.treeshoots import order_table, set_above
from roundwright.trims import rows_within

# With so many sets known no more than these are put together in all ways.
_MANY = 40


def _belows(held, known, arms):
    # What can stand below a house, one of them a set.
    if arms == 1:
        return [(held,)]
    others = known if len(known) <= _MANY else [known[0], held]
    if arms == 2:
        return [(held, other) for other in others]
    return [(held, one, other) for at, one in enumerate(others) for other in others[at:]]


class Core:
    """The tree in which a root comes that can bear labels of a goal alone; it is told by sets of labels in bits.

    A house that can bear all labels of some is a leaf of the core and weighs as told; below each other one stand
    houses of the sets told in below.
    """

    def __init__(self, problem, some, goal, weight):
        self.leaf_set = bits_of(some)
        self.below = {}
        self.arms = problem.arms
        self.table = order_table(rows_within(problem, some))
        self.root = self.worked_out(bits_of(goal), weight)

    def worked_out(self, goal, weight):
        """Put sets together, those of the lightest trees first, until there is one within the goal; this one."""
        costs = {}
        known = []
        waiting = [(weight, self.leaf_set, ())]
        while True:
            cost, held, below = heappop(waiting)
            if any([one & ~held == 0 for one in known]):
                continue
            costs[held] = cost
            self.below[held] = below
            if held & ~goal == 0:
                return held
            known.append(held)
            for group in _belows(held, known, self.arms):
                above = set_above(self.table, group)
                heappush(waiting, (1 + sum([costs[one] for one in group]), above, group))
