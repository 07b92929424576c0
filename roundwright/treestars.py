"""Stars and stills, which show that trees need few rounds, and the class of a problem on trees."""

from roundwright.basics import are_within, bits_of, is_pair, is_within
from roundwright.treechains import chain_or_hub, is_label_set
from roundwright.treeproblems import check_tree_problem, is_row
from roundwright.treeshoots import MOST_STAR, lowest_shoots, order_table, set_above
from roundwright.trims import rows_within


def _are_leaves(problem, some, height, leaves):
    if not isinstance(leaves, tuple) or not are_within(leaves, 0, problem.labels - 1):
        return False
    many = 1
    for _ in range(height):
        many = many * problem.arms
        if many > len(leaves):
            return False
    return many == len(leaves) and all([label in some for label in leaves])


def _set_at_root(problem, some, height, leaves):
    # The set of the labels that the root can bear over these leaves.
    table = order_table(rows_within(problem, some))
    sets = [1 << label for label in leaves]
    known = {}
    for _ in range(height):
        above = []
        for at in range(0, len(sets), problem.arms):
            key = tuple(sets[at:at + problem.arms])
            if key not in known:
                known[key] = set_above(table, key)
            above.append(known[key])
        sets = above
    return sets[0]


def _is_star(problem, thing):
    if not isinstance(thing, tuple) or len(thing) != 3:
        return False
    some, height, leaves = thing
    if not is_label_set(problem, some) or not is_within(height, 1, MOST_STAR):
        return False
    if not _are_leaves(problem, some, height, leaves):
        return False
    return _set_at_root(problem, some, height, leaves) == bits_of(some)


def is_star(problem, thing):
    """Whether a thing is a star of the problem."""
    check_tree_problem(problem)
    return _is_star(problem, thing)


def is_still(problem, thing):
    """Whether a thing is a still of the problem."""
    check_tree_problem(problem)
    if not is_pair(thing) or not _is_star(problem, thing[0]) or not is_row(thing[1], problem.labels, problem.arms):
        return False
    some, _, leaves = thing[0]
    label, below = thing[1]
    if thing[1] not in problem.rows or not all([one in some for one in (label,) + below]):
        return False
    return label in below and label in leaves


def _star_told(shoots, still):
    # The star that shoots tell.
    some = [label for label in range(shoots.full.bit_length()) if shoots.full >> label & 1]
    return (tuple(some), shoots.height, shoots.leaves(shoots.top((shoots.full, still)), shoots.height))


def some_star(problem):
    """A star, None without one."""
    check_tree_problem(problem)
    shoots = lowest_shoots(problem, False)
    return None if shoots is None else _star_told(shoots, False)


def some_still(problem):
    """A still, None without one."""
    check_tree_problem(problem)
    shoots = lowest_shoots(problem, True)
    if shoots is None:
        return None
    star = _star_told(shoots, True)
    for row in rows_within(problem, star[0]):
        if row[0] in row[1] and row[0] in star[2]:
            return (star, row)
    return None


def tree_class(problem):
    """The class of a problem: ("never",), ("root", k), ("log",), ("star",) or ("fixed",)."""
    check_tree_problem(problem)
    chain, hub = chain_or_hub(problem)
    if chain == ():
        return ("never",)
    if hub is None:
        return ("root", (len(chain) + 1) // 2)
    if lowest_shoots(problem, False) is None:
        return ("log",)
    return ("star",) if lowest_shoots(problem, True) is None else ("fixed",)
