"""The search for leads: the least right Lead from a problem to another one, or that there is none."""

from roundwright.basics import bits_of, is_within, numbers_of
from roundwright.errors import BadNumber, TooMany
from roundwright.leads import MOST_LEAD_ROUNDS, Lead
from roundwright.likes import unlike_labels
from roundwright.mapsearch import least_map
from roundwright.pieces import all_pieces, count_pieces, part_rows
from roundwright.problems import check_ring

_MOST_PIECES = 60


def _least_lead(first, second, rounds):
    many = 2 * rounds + 1
    if count_pieces(first, many) > _MOST_PIECES:
        raise TooMany(_MOST_PIECES)
    windows = all_pieces(first, many)
    places = {window: place for place, window in enumerate(windows)}
    following = [numbers_of(row) for row in part_rows(first)]
    pairs = []
    for window in windows:
        for label in following[window[-1]]:
            pairs.append((places[window], places[window[1:] + (label,)]))
    answers = least_map(len(windows), pairs, second.labels, second.pairs, bits_of(unlike_labels(second)))
    if answers is None:
        return None
    return Lead(first, second, rounds, {window: answer for window, answer in zip(windows, answers)})


def _check(first, second, number, part):
    check_ring(first)
    check_ring(second)
    if not is_within(number, 0, MOST_LEAD_ROUNDS):
        raise BadNumber(part)


def least_lead(first, second, rounds):
    """The right Lead of so many rounds whose answers, in the sequence of the pieces, are least; None without one."""
    _check(first, second, rounds, "rounds")
    return _least_lead(first, second, rounds)


def fewest_rounds_lead(first, second, most):
    """The least right Lead of the fewest rounds up to most for which there is one; None without one."""
    _check(first, second, most, "most")
    for rounds in range(most + 1):
        lead = _least_lead(first, second, rounds)
        if lead is not None:
            return lead
    return None
