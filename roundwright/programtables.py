"""Programs of few rounds as tables."""

from roundwright.errors import BadTable
from roundwright.problems import check_ring
from roundwright.stages import check_program, rounds_of
from roundwright.tables import MOST_TABLE_ROUNDS, Table, are_table_names, unlike_tuples
from roundwright.windowruns import window_answer


def table_of(program, names):
    """The table with the answers of a program."""
    check_program(program)
    check_ring(program.problem)
    rounds = rounds_of(program)
    if rounds > MOST_TABLE_ROUNDS:
        raise BadTable("rounds")
    if not are_table_names(rounds, names):
        raise BadTable("names")
    answers = {}
    for window in unlike_tuples(names, 2 * rounds + 1):
        answers[window] = window_answer(program, window)
        if answers[window] is None:
            raise BadTable("answers")
    return Table(program.problem.labels, rounds, names, answers)
