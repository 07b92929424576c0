"""Gates of a web, the web stepped down to them, and maps that are led up and down."""

from roundwright.basics import numbers_of
from roundwright.errors import BadMap, TooMany
from roundwright.webs import (
    MOST_PLACES, MOST_WEB_PAIRS, Web, arc_web, check_web, check_webs, is_web_map, web_columns, web_rows)


def _common(rows, full, held):
    # What all numbers of a set lead to.
    found = full
    for number in numbers_of(held):
        found = found & rows[number]
    return found


def _closed_sets(web):
    # The sets of the places to which all places of some set lead.
    full = (1 << web.size) - 1
    found = {full: True}
    for row in {row: True for row in web_rows(web)}:
        for held in list(found):
            found[held & row] = True
        if len(found) > MOST_PLACES:
            raise TooMany(MOST_PLACES)
    return list(found)


def gate_sets(web):
    """The gates of a web as pairs of sets, in the ascending sequence of the gates."""
    columns = web_columns(web)
    full = (1 << web.size) - 1
    pairs = [(_common(columns, full, held), held) for held in _closed_sets(web)]
    # No two gates have the same first set.
    found = sorted([(numbers_of(first), number) for number, (first, _) in enumerate(pairs)])
    return [pairs[number] for _, number in found]


def gates(web):
    """The ascending tuple of all gates of a web."""
    check_web(web)
    return tuple([(tuple(numbers_of(first)), tuple(numbers_of(second))) for first, second in gate_sets(web)])


def _stepped(sets, size):
    # The web of gates that are told as pairs of sets of places of a web of so many.
    having = [0] * size
    for number, (first, _) in enumerate(sets):
        for place in numbers_of(first):
            having[place] = having[place] | 1 << number
    pairs = []
    for number, (_, second) in enumerate(sets):
        held = 0
        for place in numbers_of(second):
            held = held | having[place]
        pairs.extend([(number, on) for on in numbers_of(held)])
        if len(pairs) > MOST_WEB_PAIRS:
            raise TooMany(MOST_WEB_PAIRS)
    return Web(len(sets), pairs)


def stepped_with_sets(web):
    """The pair of a web stepped down and of its gates as pairs of sets."""
    sets = gate_sets(web)
    return _stepped(sets, web.size), sets


def step_down(web):
    """The web of the gates of a web, in which a gate leads to those with whose first places it shares a second one."""
    check_web(web)
    return stepped_with_sets(web)[0]


def least_common(one, other):
    """The least place that is in a gate's second set and in another gate's first one; the gates are pairs of sets."""
    both = one[1] & other[0]
    return (both & -both).bit_length() - 1


def led_up(one, other, thing):
    """The map from the arcs of a web that a map into a web stepped down tells."""
    check_webs(one, other)
    stepped, sets = stepped_with_sets(other)
    arc_web(one)
    if not is_web_map(one, stepped, thing):
        raise BadMap("not a map into the web stepped down")
    return tuple([least_common(sets[thing[first]], sets[thing[second]]) for first, second in one.pairs])


def led_down(one, other, thing):
    """The map into a web stepped down that a map from the arcs of a web tells."""
    check_webs(one, other)
    _, sets = stepped_with_sets(other)
    arcs = arc_web(one)
    if not is_web_map(arcs, other, thing):
        raise BadMap("not a map from the web of the pairs")
    rows = web_rows(other)
    found = [(1 << other.size) - 1] * one.size
    for (_, place), image in zip(one.pairs, thing):
        found[place] = found[place] & rows[image]
    numbers = {second: number for number, (_, second) in enumerate(sets)}
    return tuple([numbers[held] for held in found])
