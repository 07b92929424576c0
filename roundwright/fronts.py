"""Fronts: how many rounds each house has done, where houses hear one another by letters."""

from roundwright.basics import count_lines, is_line_of, is_within, rows_of, tied_rounds
from roundwright.errors import BadFront, BadNumber, TooMany
from roundwright.neighbours import check_kind, least_around, neighbours
from roundwright.problems import MOST_HOUSES

MOST_FRONT = 400
_MOST_COUNTED = 40
_MOST_FRONTS = 5000


def are_rounds(thing):
    """Whether a thing is a tuple of 1 to 400 numbers from 0 to 400."""
    return is_line_of(thing, MOST_HOUSES, 0, MOST_FRONT)


def _is_front(kind, thing):
    if not are_rounds(thing):
        return False
    if kind == "ring" and abs(thing[0] - thing[-1]) > 1:
        return False
    return all([abs(one - other) <= 1 for one, other in zip(thing[:-1], thing[1:])])


def is_front(kind, thing):
    """Whether a thing is a front of houses of a ring or a path."""
    check_kind(kind)
    return _is_front(kind, thing)


def check_front(kind, front):
    """BadNumber("kind") unless a kind, BadFront unless a front of this kind."""
    check_kind(kind)
    if not _is_front(kind, front):
        raise BadFront("not a front")


def _check_both(kind, one, other):
    check_front(kind, one)
    check_front(kind, other)
    if len(one) != len(other):
        raise BadFront("not fronts of as many houses")


def front_leads(kind, one, other):
    """Whether single rounds lead from a front to another one."""
    _check_both(kind, one, other)
    return all([few <= many for few, many in zip(one, other)])


def fronts_between(kind, one, other):
    """The pair of the fronts that have at each house the less and the greater one of two fronts' numbers."""
    _check_both(kind, one, other)
    return (tuple([min(pair) for pair in zip(one, other)]), tuple([max(pair) for pair in zip(one, other)]))


def how_many_fronts(kind, size, rounds):
    """How many fronts of so many houses have numbers from 0 to rounds."""
    check_kind(kind)
    if not is_within(size, 1, MOST_HOUSES):
        raise BadNumber("size")
    if not is_within(rounds, 0, _MOST_COUNTED):
        raise BadNumber("rounds")
    near = [(one, other) for one in range(rounds + 1) for other in range(rounds + 1) if abs(one - other) <= 1]
    rows = rows_of(rounds + 1, near)
    allowed = [(1 << rounds + 1) - 1] * size
    choices = tied_rounds(rows, allowed) if kind == "ring" else [allowed]
    return sum([count_lines(rows, choice) for choice in choices])


def _later_fronts(beside, front, last):
    # The fronts to which a single round leads that are at or below the last one; beside are the houses' neighbours.
    found = []
    for place, number in enumerate(front):
        if number < last[place] and all([front[at] >= number for at in beside[place]]):
            found.append(front[:place] + (number + 1,) + front[place + 1:])
    return found


def _orders_onwards(beside, orders, last, most):
    # For each front one round later, at or below the last one, how many sequences lead there; TooMany above most.
    later = {}
    for front, many in orders.items():
        for found in _later_fronts(beside, front, last):
            later[found] = later.get(found, 0) + many
            if len(later) > most:
                raise TooMany(_MOST_FRONTS)
    return later


def orders_to(kind, front):
    """How many sequences of single rounds lead from the front of zeros to this one."""
    check_front(kind, front)
    size = len(front)
    beside = [neighbours(kind, size, place) for place in range(size)]
    orders = {(0,) * size: 1}
    left = _MOST_FRONTS - 1
    for _ in range(sum(front)):
        orders = _orders_onwards(beside, orders, front, left)
        left -= len(orders)
    return orders[front]


def _check_rounds(kind, numbers):
    check_kind(kind)
    if not are_rounds(numbers):
        raise BadFront("not a tuple of 1 to 400 numbers from 0 to 400")


def last_front_below(kind, numbers):
    """The greatest front that is at or below these numbers at each house."""
    _check_rounds(kind, numbers)
    return tuple(least_around(kind, numbers))


def first_front_above(kind, numbers):
    """The least front that is at or above these numbers at each house."""
    _check_rounds(kind, numbers)
    return tuple([-number for number in least_around(kind, [-number for number in numbers])])
