"""Nets: the names of the houses of a ring or a path, and what houses know of them after so many rounds."""

from roundwright.basics import are_unlike, is_line_of, is_within
from roundwright.errors import BadNet, BadNumber
from roundwright.problems import MOST_HOUSES

MOST_NAME = 1000000000
_MOST_ROUNDS = 400


def is_net(thing):
    """Whether a thing is a tuple of 1 to 400 unlike names."""
    return is_line_of(thing, MOST_HOUSES, 1, MOST_NAME) and are_unlike(thing)


def check_net(net):
    """BadNet unless a net."""
    if not is_net(net):
        raise BadNet("not a tuple of 1 to 400 unlike names")


def _check_window(net, place, rounds):
    check_net(net)
    if not is_within(place, 0, len(net) - 1):
        raise BadNumber("place")
    if not is_within(rounds, 0, _MOST_ROUNDS):
        raise BadNumber("rounds")


def around_ring(line, place, rounds):
    """What stands on a ring from so many places ahead of a place to so many behind it, a tuple."""
    return tuple([line[at % len(line)] for at in range(place - rounds, place + rounds + 1)])


def ring_window(net, place, rounds):
    """The names that a house of a ring knows after so many rounds."""
    _check_window(net, place, rounds)
    return around_ring(net, place, rounds)


def path_window(net, place, rounds):
    """The names that a house of a path knows after so many rounds, with 0 where nobody stands."""
    _check_window(net, place, rounds)
    size = len(net)
    return tuple([net[at] if 0 <= at < size else 0 for at in range(place - rounds, place + rounds + 1)])
