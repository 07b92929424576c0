"""Goings: how far houses come that begin with what they kept, and tell one another what they keep."""

from roundwright.basics import are_within, is_listed, is_pair_of, is_within
from roundwright.errors import BadNumber, BadSpans
from roundwright.fronts import MOST_FRONT
from roundwright.neighbours import check_kind, neighbours
from roundwright.problems import MOST_HOUSES


def _is_span(thing):
    return is_pair_of(thing, 0, MOST_FRONT) and thing[0] <= thing[1]


def _check_spans(kind, spans):
    check_kind(kind)
    if not is_listed(spans) or not 1 <= len(spans) <= MOST_HOUSES or not all([_is_span(span) for span in spans]):
        raise BadSpans("not a list of 1 to 400 spans")


def _held_up(kind, spans):
    found = []
    for place, (_, last) in enumerate(spans):
        if any([spans[other][0] > last for other in neighbours(kind, len(spans), place)]):
            found.append(place)
    return tuple(found)


def held_up(kind, spans):
    """The ascending tuple of the houses that have a neighbour which keeps too little for them."""
    _check_spans(kind, spans)
    return _held_up(kind, spans)


def end_of(kind, spans, rounds):
    """The tuple of how many rounds each house comes to."""
    _check_spans(kind, spans)
    lasts = [last for _, last in spans]
    if not is_within(rounds, max(lasts), MOST_FRONT):
        raise BadNumber("rounds")
    ends = [rounds] * len(spans)
    for place in _held_up(kind, spans):
        ends[place] = lasts[place]
    changed = True
    while changed:
        changed = False
        for place, last in enumerate(lasts):
            # A house waits for its neighbours, but what it has done it has done.
            most = min([ends[other] + 1 for other in neighbours(kind, len(spans), place)] + [ends[place]])
            if max(last, most) < ends[place]:
                ends[place] = max(last, most)
                changed = True
    return tuple(ends)


def safe_firsts(kind, lasts):
    """The tuple of the greatest numbers below which houses can drop what they keep, so that nobody is held up."""
    check_kind(kind)
    if not is_listed(lasts) or not 1 <= len(lasts) <= MOST_HOUSES or not are_within(lasts, 0, MOST_FRONT):
        raise BadSpans("not a list of 1 to 400 numbers from 0 to 400")
    size = len(lasts)
    return tuple([
        min([lasts[other] for other in neighbours(kind, size, place)] + [last]) for place, last in enumerate(lasts)])
