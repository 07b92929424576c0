"""Leads: programs that tell each house a label of one problem by the labels of another one around it."""

from roundwright.basics import are_answers, is_within
from roundwright.errors import BadLabelling, BadLead
from roundwright.nets import around_ring
from roundwright.pieces import all_pieces
from roundwright.problems import check_ring, is_right, problem_rows

MOST_LEAD_ROUNDS = 3


class Lead:
    """A program out of a program: for each piece of first, so many rounds to both sides, a label of second."""

    def __init__(self, first, second, rounds, answers):
        check_ring(first)
        check_ring(second)
        if not is_within(rounds, 0, MOST_LEAD_ROUNDS):
            raise BadLead("rounds")
        windows = all_pieces(first, 2 * rounds + 1)
        if not are_answers(answers, windows, second.labels):
            raise BadLead("answers")
        self.first = first
        self.second = second
        self.rounds = rounds
        self.answers = {window: answers[window] for window in windows}

    def __eq__(self, other):
        if not isinstance(other, Lead) or self.first != other.first or self.second != other.second:
            return False
        return self.rounds == other.rounds and self.answers == other.answers


def check_lead(lead):
    """BadLead(None) unless a Lead."""
    if not isinstance(lead, Lead):
        raise BadLead(None)


def led(lead, labelling):
    """What the houses of a ring answer that bear a right labelling of the lead's first problem."""
    check_lead(lead)
    if not is_right(lead.first, labelling):
        raise BadLabelling("not a right labelling for the first problem")
    return tuple([lead.answers[around_ring(labelling, place, lead.rounds)] for place in range(len(labelling))])


def bad_piece(lead):
    """The least piece at whose first and last labels the lead's answers are no pair of second, None without one."""
    check_lead(lead)
    rows = problem_rows(lead.second)
    for piece in all_pieces(lead.first, 2 * lead.rounds + 2):
        if not rows[lead.answers[piece[:-1]]] >> lead.answers[piece[1:]] & 1:
            return piece
    return None


def is_right_lead(lead):
    """Whether a lead leads each right labelling of its first problem to a right one of its second one."""
    check_lead(lead)
    return bad_piece(lead) is None
