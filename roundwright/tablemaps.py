"""Tables as maps between webs: the least sound table of a problem, or a bar that shows that there is none."""

from roundwright.bars import map_bar
from roundwright.basics import is_within
from roundwright.errors import BadNumber
from roundwright.maps import some_map
from roundwright.problems import check_ring
from roundwright.tables import MOST_TABLE_ROUNDS, Table, are_table_names, check_table
from roundwright.webs import web_of
from roundwright.windows import UNLIKE, web_of_windows, window_list


def map_of_table(table):
    """The tuple of the answers of a table by ascending windows."""
    check_table(table)
    return tuple(list(table.answers.values()))


def _webs(problem, rounds, names):
    # The web of the windows and that of the problem.
    check_ring(problem)
    if not is_within(rounds, 0, MOST_TABLE_ROUNDS):
        raise BadNumber("rounds")
    if not are_table_names(rounds, names):
        raise BadNumber("names")
    return web_of_windows(names, 2 * rounds, UNLIKE), web_of(problem)


def least_table(problem, rounds, names):
    """The sound table of so many rounds with the least answers by ascending windows, None without one."""
    windows, web = _webs(problem, rounds, names)
    found = some_map(windows, web)
    if found is None:
        return None
    answers = {window: answer for window, answer in zip(window_list(names, 2 * rounds, UNLIKE), found)}
    return Table(problem.labels, rounds, names, answers)


def bar_of_tables(problem, rounds, names):
    """A bar that shows that there is no sound table, None if there is one."""
    windows, web = _webs(problem, rounds, names)
    return map_bar(windows, web)
