"""Leads made of leads: the one that changes nothing, wider ones, and one behind the other."""

from roundwright.basics import is_within, numbers_of
from roundwright.errors import BadLead, BadNumber, TooMany
from roundwright.leads import MOST_LEAD_ROUNDS, Lead, check_lead
from roundwright.pieces import all_pieces, part_rows
from roundwright.problems import check_ring
from roundwright.sides import MOST_SIDE_LABELS, SideProblem


def own_lead(problem):
    """The Lead of 0 rounds from a problem to itself that answers with the house's own label."""
    check_ring(problem)
    return Lead(problem, problem, 0, {piece: piece[0] for piece in all_pieces(problem, 1)})


def _widened(lead, rounds):
    more = rounds - lead.rounds
    many = 2 * lead.rounds + 1
    windows = all_pieces(lead.first, 2 * rounds + 1)
    return Lead(lead.first, lead.second, rounds, {window: lead.answers[window[more:more + many]] for window in windows})


def widened(lead, rounds):
    """The Lead of so many rounds that answers by its middle labels as lead does."""
    check_lead(lead)
    if not is_within(rounds, lead.rounds, MOST_LEAD_ROUNDS):
        raise BadNumber("rounds")
    return _widened(lead, rounds)


def _is_right(lead):
    # As is_right_lead tells, but from window to window: also where there are more than 4000 longer pieces.
    following = [numbers_of(row) for row in part_rows(lead.first)]
    pairs = lead.second.pairs
    for window, answer in lead.answers.items():
        for label in following[window[-1]]:
            if (answer, lead.answers[window[1:] + (label,)]) not in pairs:
                return False
    return True


def after(lead, other):
    """The Lead that answers as other does to what lead answers."""
    check_lead(lead)
    check_lead(other)
    if other.first != lead.second:
        raise BadLead("fit")
    if not _is_right(lead):
        raise BadLead("right")
    rounds = lead.rounds + other.rounds
    if rounds > MOST_LEAD_ROUNDS:
        raise TooMany(MOST_LEAD_ROUNDS)
    many = 2 * lead.rounds + 1
    answers = {}
    for window in all_pieces(lead.first, 2 * rounds + 1):
        between = [lead.answers[window[at:at + many]] for at in range(2 * other.rounds + 1)]
        answers[window] = other.answers[tuple(between)]
    return Lead(lead.first, other.second, rounds, answers)


def leads_alike(lead, other):
    """Whether two leads between the same problems lead each right labelling to the same one."""
    check_lead(lead)
    check_lead(other)
    if lead.first != other.first or lead.second != other.second:
        raise BadLead("fit")
    rounds = max(lead.rounds, other.rounds)
    return _widened(lead, rounds) == _widened(other, rounds)


def two_way(problem):
    """The SideProblem whose right labellings are those of a problem that are right told both ways."""
    check_ring(problem)
    if problem.labels > MOST_SIDE_LABELS:
        raise TooMany(MOST_SIDE_LABELS)
    tops = [(label, label) for label in range(problem.labels)]
    lines = [(one, other) for one, other in problem.pairs if one <= other and (other, one) in problem.pairs]
    return SideProblem(problem.labels, tops, lines)
