"""Labellings and tables told with other numbers for their labels."""

from roundwright.basics import is_order
from roundwright.errors import BadLabelling, BadOrder
from roundwright.problems import check_problem, is_labelling
from roundwright.tables import Table, check_table


def _check_order(order, labels):
    if not isinstance(order, tuple) or not is_order(order, labels):
        raise BadOrder("not a tuple of all labels, each once")


def renumbered_labelling(problem, labelling, order):
    """The labelling in which each label is called by its thing in order."""
    check_problem(problem)
    if not is_labelling(problem, labelling):
        raise BadLabelling("not a labelling of labels of the problem")
    _check_order(order, problem.labels)
    return tuple([order[label] for label in labelling])


def renumbered_table(table, order):
    """The table that answers with each label called by its thing in order."""
    check_table(table)
    _check_order(order, table.labels)
    answers = {window: order[label] for window, label in table.answers.items()}
    return Table(table.labels, table.rounds, table.names, answers)
