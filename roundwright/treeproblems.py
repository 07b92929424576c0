"""Problems on rooted trees: which labels the children of a house may bear, and what houses know of their tree."""

from itertools import permutations

from roundwright.basics import are_unlike, are_within, bits_of, is_listed, is_number, is_pair, is_within, least_of
from roundwright.errors import BadLabelling, BadNumber, BadProblem, BadTree
from roundwright.nets import MOST_NAME
from roundwright.problems import MOST_LABELS

MOST_ARMS = 3
_MOST_BALL = 1000000


def is_row(thing, labels, arms):
    """Whether a thing is a row of a problem of so many labels and arms."""
    if not is_pair(thing) or not is_within(thing[0], 0, labels - 1):
        return False
    below = thing[1]
    if not isinstance(below, tuple) or len(below) != arms or not are_within(below, 0, labels - 1):
        return False
    return all([one <= other for one, other in zip(below[:-1], below[1:])])


class TreeProblem:
    """A problem on trees: rows tell a label and the labels that the children of a house with it may bear."""

    def __init__(self, labels, arms, rows):
        if not is_within(labels, 1, MOST_LABELS):
            raise BadProblem("labels")
        if not is_within(arms, 1, MOST_ARMS):
            raise BadProblem("arms")
        if not is_listed(rows) or not all([is_row(row, labels, arms) for row in rows]) or not are_unlike(rows):
            raise BadProblem("rows")
        self.labels = labels
        self.arms = arms
        self.rows = tuple(sorted(rows))

    def __eq__(self, other):
        if not isinstance(other, TreeProblem):
            return False
        return self.labels == other.labels and self.arms == other.arms and self.rows == other.rows


def check_tree_problem(problem):
    """BadProblem(None) unless a TreeProblem."""
    if not isinstance(problem, TreeProblem):
        raise BadProblem(None)


def _is_house(thing, place):
    if not is_pair(thing) or not is_within(thing[0], 1, MOST_NAME) or not is_number(thing[1]):
        return False
    return 0 <= thing[1] < place if place > 0 else thing[1] == -1


def _child_counts(tree):
    counts = [0] * len(tree)
    for _, parent in tree[1:]:
        counts[parent] += 1
    return counts


def _arms_of(thing):
    # The arms of a tree, 0 of one house; None unless a thing is a tree of some arms.
    if not isinstance(thing, tuple) or thing == () or not all([_is_house(house, at) for at, house in enumerate(thing)]):
        return None
    counts = _child_counts(thing)
    if counts[0] > MOST_ARMS or not all([many in (0, counts[0]) for many in counts]):
        return None
    return counts[0] if are_unlike([name for name, _ in thing]) else None


def has_arms(thing, arms):
    """Whether a thing is a tree of so many arms."""
    return _arms_of(thing) in (0, arms)


def check_any_tree(tree):
    """BadTree unless a tree of 1, 2 or 3 arms."""
    if _arms_of(tree) is None:
        raise BadTree("not a tree of 1, 2 or 3 arms")


def check_tree(problem, tree):
    """BadProblem(None) unless a TreeProblem, BadTree unless a tree of its arms."""
    check_tree_problem(problem)
    if not has_arms(tree, problem.arms):
        raise BadTree("not a tree of the problem's arms")


def is_tree(arms, thing):
    """Whether a thing is a tree of so many arms."""
    if not is_within(arms, 1, MOST_ARMS):
        raise BadNumber("arms")
    return has_arms(thing, arms)


def children_of(tree):
    """For each house the list of the places of its children, by ascending places."""
    found = [[] for _ in tree]
    for place, (_, parent) in enumerate(tree):
        if parent >= 0:
            found[parent].append(place)
    return found


def by_names(tree, places):
    """Places in the order of their names."""
    return [place for _, place in sorted([(tree[place][0], place) for place in places])]


def first_wrong(problem, tree, labelling):
    """The least place of a house whose children bear what they may not, None for a right labelling."""
    check_tree(problem, tree)
    if not isinstance(labelling, tuple) or len(labelling) != len(tree):
        raise BadLabelling("not a label for each house")
    if not are_within(labelling, 0, problem.labels - 1):
        raise BadLabelling("not a tuple of labels of the problem")
    rows = {row: True for row in problem.rows}
    for place, children in enumerate(children_of(tree)):
        if children and (labelling[place], tuple(sorted([labelling[at] for at in children]))) not in rows:
            return place
    return None


def _orders(problem):
    # For each label the ascending list of what its children may bear, told in any sequence of theirs.
    found = [{} for _ in range(problem.labels)]
    for label, below in problem.rows:
        labels = list(below)
        for order in permutations(labels):
            found[label][order] = True
    return [sorted(list(orders)) for orders in found]


def _shapes(tree, children):
    # A number for each house, the same for houses below which all is alike but for names; and for each number, in
    # a sequence in which children come first, the tuple of its children's numbers.
    known = {}
    shapes = [0] * len(tree)
    for place in range(len(tree) - 1, -1, -1):
        below = tuple(sorted([shapes[at] for at in children[place]]))
        if below not in known:
            known[below] = len(known)
        shapes[place] = known[below]
    return shapes, list(known)


def how_many_right(problem, tree):
    """How many right labellings of a tree there are."""
    check_tree(problem, tree)
    orders = _orders(problem)
    shapes, belows = _shapes(tree, children_of(tree))
    ways = []
    for below in belows:
        if below == ():
            ways.append([1] * problem.labels)
        else:
            ways.append([_ways_below(ways, below, group) for group in orders])
    return sum(ways[shapes[0]])


def _ways_below(ways, below, orders):
    # How many labellings there are below a house whose children bear one of these orders of labels.
    total = 0
    for order in orders:
        many = 1
        for shape, label in zip(below, order):
            many = many * ways[shape][label]
        total = total + many
    return total


def _first_fit(orders, held):
    # The first order of labels that has at each place one of the set held there, None without one.
    for order in orders:
        if all([left >> label & 1 for left, label in zip(held, order)]):
            return order
    return None


def _possible(orders, tree, children):
    # For each house the set of the labels with which what stands below it can be right.
    shapes, belows = _shapes(tree, children)
    held = []
    for below in belows:
        if below == ():
            held.append((1 << len(orders)) - 1)
        else:
            sets = [held[shape] for shape in below]
            held.append(bits_of([at for at, group in enumerate(orders) if _first_fit(group, sets) is not None]))
    return [held[shape] for shape in shapes]


def least_right(problem, tree):
    """The least right labelling of a tree, None without one."""
    check_tree(problem, tree)
    orders = _orders(problem)
    children = children_of(tree)
    held = _possible(orders, tree, children)
    if held[0] == 0:
        return None
    labels = [least_of(held[0])] + [0] * (len(tree) - 1)
    for place, below in enumerate(children):
        # What the children of a house bear does not matter to others' children: the least is taken family by family.
        if below:
            order = _first_fit(orders[labels[place]], [held[at] for at in below])
            for at, label in zip(below, order):
                labels[at] = label
    return tuple(labels)


def places_around(tree, children, place, rounds):
    """A dict of the places at most so many steps away from a place."""
    found = {place: True}
    edge = [place]
    for _ in range(min(rounds, len(tree))):
        further = []
        for one in edge:
            for other in children[one] + [tree[one][1]]:
                if other >= 0 and other not in found:
                    found[other] = True
                    further.append(other)
        edge = further
    return found


def ball_of(tree, children, place, rounds):
    """As ball, of a tree with the children of its houses."""
    near = places_around(tree, children, place, rounds)
    triples = []
    for one in near:
        name, parent = tree[one]
        above = 0
        if parent >= 0:
            above = tree[parent][0] if parent in near else -1
        triples.append((name, above, len(children[one])))
    return (tree[place][0], tuple(sorted(triples)))


def ball(tree, place, rounds):
    """What a house knows of its tree after so many rounds."""
    check_any_tree(tree)
    if not is_within(place, 0, len(tree) - 1):
        raise BadNumber("place")
    if not is_within(rounds, 0, _MOST_BALL):
        raise BadNumber("rounds")
    return ball_of(tree, children_of(tree), place, rounds)
