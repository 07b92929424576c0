"""Tables: programs of few rounds for rings of small names, which tell an answer for each window."""

from itertools import permutations

from roundwright.basics import are_answers, is_number, is_within
from roundwright.errors import BadNet, BadTable
from roundwright.nets import around_ring, is_net
from roundwright.problems import MOST_LABELS, check_ring, problem_rows

MOST_TABLE_ROUNDS = 3
_MOST_TUPLES = 50000


def are_table_names(rounds, names):
    """Whether this is a number of names up to which a Table of so many rounds can go."""
    if not is_number(names) or names < 2 * rounds + 1:
        return False
    many = 1
    for step in range(2 * rounds + 2):
        many = many * (names - step)
        if many > _MOST_TUPLES:
            return False
    return True


def unlike_tuples(names, many):
    """The ascending list of the tuples of so many unlike numbers from 1 to names."""
    return list(permutations(range(1, names + 1), many))


class Table:
    """A program of so many rounds for rings with names up to a number: an answer for each window."""

    def __init__(self, labels, rounds, names, answers):
        if not is_within(labels, 1, MOST_LABELS):
            raise BadTable("labels")
        if not is_within(rounds, 0, MOST_TABLE_ROUNDS):
            raise BadTable("rounds")
        if not are_table_names(rounds, names):
            raise BadTable("names")
        windows = unlike_tuples(names, 2 * rounds + 1)
        if not are_answers(answers, windows, labels):
            raise BadTable("answers")
        self.labels = labels
        self.rounds = rounds
        self.names = names
        self.answers = {window: answers[window] for window in windows}

    def __eq__(self, other):
        if not isinstance(other, Table):
            return False
        if self.labels != other.labels or self.rounds != other.rounds or self.names != other.names:
            return False
        return self.answers == other.answers


def check_table(table):
    """BadTable(None) unless a Table."""
    if not isinstance(table, Table):
        raise BadTable(None)


def answered(table, net):
    """The labelling that the houses of a ring with this net answer."""
    check_table(table)
    if not is_net(net) or len(net) < 2 * table.rounds + 1 or max(net) > table.names:
        raise BadNet("not a ring of enough houses with names of the table")
    return tuple([table.answers[around_ring(net, place, table.rounds)] for place in range(len(net))])


def _unsound_tuples(problem, table):
    # The tuples of 2 * rounds + 2 unlike names at whose both ends the answers are no pair.
    rows = problem_rows(problem)
    found = []
    for names in unlike_tuples(table.names, 2 * table.rounds + 2):
        if not rows[table.answers[names[:-1]]] >> table.answers[names[1:]] & 1:
            found.append(names)
    return found


def _check_both(problem, table):
    check_ring(problem)
    check_table(table)
    if problem.labels != table.labels:
        raise BadTable("labels")


def is_sound(problem, table):
    """Whether a table answers with a right labelling on every ring with names of it that is not too small."""
    _check_both(problem, table)
    return _unsound_tuples(problem, table) == []


def _least_turn(names):
    first = names.index(min(names))
    return names[first:] + names[:first]


def unsound_ring(problem, table):
    """The least ring on which a table does not answer with a right labelling, None without one."""
    _check_both(problem, table)
    return min([_least_turn(names) for names in _unsound_tuples(problem, table)], default=None)
