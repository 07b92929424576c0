"""Windows of names, and the webs in which they lead to one another."""

from roundwright.basics import is_within
from roundwright.errors import BadKind, BadNumber
from roundwright.tables import unlike_tuples
from roundwright.webs import Web, check_many

NEXT = "next"
UNLIKE = "unlike"
RISING = "rising"
MOST_HALVES = 12
_MOST_NAMES = 200


def check_halves(halves):
    """BadNumber("halves") unless from 0 to 12."""
    if not is_within(halves, 0, MOST_HALVES):
        raise BadNumber("halves")


def check_window_kind(kind):
    """BadKind unless a kind of windows."""
    if not isinstance(kind, str) or kind not in (NEXT, UNLIKE, RISING):
        raise BadKind("not a kind of windows")


def count_windows(names, halves, kind):
    """How many windows there are."""
    many = names
    for step in range(1, halves + 1):
        if kind == NEXT:
            many = many * (names - 1)
        elif kind == UNLIKE:
            many = many * max(0, names - step)
        else:
            many = many * max(0, names - step) // (step + 1)
    return many


def window_list(names, halves, kind):
    """The ascending list of the windows."""
    if kind == UNLIKE:
        return unlike_tuples(names, halves + 1)
    found = [(name,) for name in range(1, names + 1)]
    for _ in range(halves):
        longer = []
        for window in found:
            first = window[-1] + 1 if kind == RISING else 1
            longer.extend([window + (name,) for name in range(first, names + 1) if name != window[-1]])
        found = longer
    return found


def web_of_windows(names, halves, kind):
    """As window_web, of right values; TooMany as there."""
    check_many(count_windows(names, halves, kind), count_windows(names, halves + 1, kind))
    windows = window_list(names, halves, kind)
    places = {window: place for place, window in enumerate(windows)}
    pairs = [(places[longer[:-1]], places[longer[1:]]) for longer in window_list(names, halves + 1, kind)]
    return Web(len(windows), pairs)


def _check(names, halves, kind):
    if not is_within(names, 1, _MOST_NAMES):
        raise BadNumber("names")
    check_halves(halves)
    check_window_kind(kind)


def all_windows(names, halves, kind):
    """The ascending tuple of all windows of so many halves, of names up to a number."""
    _check(names, halves, kind)
    check_many(count_windows(names, halves, kind), 0)
    return tuple(window_list(names, halves, kind))


def window_web(names, halves, kind):
    """The web of the windows, in which one leads to another one if a longer window begins and ends with them."""
    _check(names, halves, kind)
    return web_of_windows(names, halves, kind)
