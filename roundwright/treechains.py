"""Chains of sets of labels, each trimmed of what was free in the one ahead; and hubs, with which chains never end."""

from roundwright.basics import is_tuple_of
from roundwright.freesets import free_steps, greatest_free
from roundwright.treeproblems import check_tree_problem
from roundwright.trims import trim


def is_label_set(problem, thing):
    """Whether a thing is a set of labels that is not empty, as an ascending tuple."""
    if not is_tuple_of(thing, 0, problem.labels - 1) or thing == ():
        return False
    return all([one < other for one, other in zip(thing[:-1], thing[1:])])


def is_hub(problem, thing):
    """Whether a thing is a set that is trimmed of itself and free in itself."""
    check_tree_problem(problem)
    if not is_label_set(problem, thing) or trim(problem, thing) != thing:
        return False
    return free_steps(problem, thing, thing) is not None


def _first_set(problem):
    return trim(problem, list(range(problem.labels)))


def is_chain(problem, thing):
    """Whether a thing is a chain of the problem."""
    check_tree_problem(problem)
    if not isinstance(thing, tuple) or len(thing) % 2 == 0 or not all([is_label_set(problem, part) for part in thing]):
        return False
    if thing[0] != _first_set(problem):
        return False
    for at in range(1, len(thing), 2):
        if free_steps(problem, thing[at - 1], thing[at]) is None or trim(problem, thing[at]) != thing[at + 1]:
            return False
    return True


def _longest_from(problem, some):
    # The pair of the longest chain that goes on from a set, and None; or of None and a hub, if one is within it.
    # A greater free set leads to a greater set to go on with: the greatest ones are enough.
    best = (some,)
    for few in greatest_free(problem, some):
        on = trim(problem, few)
        if on == some:
            return None, some
        if on:
            chain, hub = _longest_from(problem, on)
            if hub is not None:
                return None, hub
            if len(chain) + 2 > len(best):
                best = (some, few) + chain
    return best, None


def chain_or_hub(problem):
    """The pair of a longest chain and None, of None and a hub if there is one; of () and None without a chain."""
    some = _first_set(problem)
    return _longest_from(problem, some) if some else ((), None)


def longest_chain(problem):
    """A chain of the greatest length, () without one, None if there are chains of all lengths."""
    check_tree_problem(problem)
    return chain_or_hub(problem)[0]


def some_hub(problem):
    """A hub, None without one."""
    check_tree_problem(problem)
    return chain_or_hub(problem)[1]
