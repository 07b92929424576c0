"""Webs stepped down again and again, and for how many names there are programs of so many halves of rounds."""

from roundwright.errors import TooMany
from roundwright.gates import step_down
from roundwright.mapchecks import can_have_map
from roundwright.maphunt import MapHunt
from roundwright.problems import check_ring
from roundwright.rows import most_beside, most_in_row
from roundwright.webs import check_web, loops_of, web_of
from roundwright.windows import NEXT, RISING, UNLIKE, check_halves, check_window_kind, web_of_windows


def web_stepped(web, halves):
    """The web stepped down so many times."""
    check_web(web)
    check_halves(halves)
    for _ in range(halves):
        web = step_down(web)
    return web


def _bounds(web, halves):
    # How many names there are maps for surely, and for how many at most; None for what is not told.
    try:
        stepped = web_stepped(web, halves)
    except TooMany:
        return halves, None
    return max(halves, len(most_beside(stepped))), max(halves, len(most_in_row(stepped)))


def _most_unlike(web, halves):
    # Up to as many names as there are halves there is no window, so there are maps.
    names, most = _bounds(web, halves)
    low = halves + 1
    while low <= names:
        web_of_windows(low, halves, UNLIKE)
        low += 1
    while True:
        windows = web_of_windows(names + 1, halves, UNLIKE)
        if names == most or not can_have_map(windows, web) or MapHunt(windows, web).found([]) is None:
            return names
        names += 1


def most_names(problem, halves, kind):
    """The greatest number of names whose windows map into a problem's web, None if they do for all numbers."""
    check_ring(problem)
    check_halves(halves)
    check_window_kind(kind)
    web = web_of(problem)
    if loops_of(web):
        return None
    if kind == NEXT:
        return len(most_beside(web_stepped(web, halves)))
    if kind == RISING:
        return len(most_in_row(web_stepped(web, halves)))
    return _most_unlike(web, halves)
