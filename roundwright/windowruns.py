"""What houses answer by their windows alone, and how windows grow round by round."""

from roundwright.basics import are_unlike, are_within, is_within
from roundwright.errors import BadNumber, BadWindow
from roundwright.lines import Line
from roundwright.nets import MOST_NAME
from roundwright.problems import PathProblem
from roundwright.stages import check_program, rounds_of


def _turn(window):
    # After how many things the names of a window come again, or how many it has.
    again = [place for place, name in enumerate(window) if name == window[0]][1:2]
    return again[0] if again else len(window)


def _is_ring_window(window):
    if not are_within(window, 1, MOST_NAME):
        return False
    turn = _turn(window)
    return are_unlike(window[:turn]) and all([name == window[place] for place, name in enumerate(window[turn:])])


def _path_part(window):
    # The pair of the names of a window, without the zeros around them, and of the place of the middle one there.
    middle = len(window) // 2
    first = middle
    while first > 0 and window[first - 1] != 0:
        first -= 1
    last = middle
    while last < len(window) - 1 and window[last + 1] != 0:
        last += 1
    return window[first:last + 1], middle - first


def _is_path_window(window):
    if not are_within(window, 0, MOST_NAME):
        return False
    names, middle = _path_part(window)
    first = len(window) // 2 - middle
    others = window[:first] + window[first + len(names):]
    return 0 not in names and are_unlike(names) and all([name == 0 for name in others])


def _is_window(program, thing):
    if not isinstance(thing, tuple) or len(thing) % 2 == 0:
        return False
    return _is_path_window(thing) if isinstance(program.problem, PathProblem) else _is_ring_window(thing)


def _check_window(program, window):
    if not _is_window(program, window):
        raise BadWindow("not a window of the program's nets")


def window_answer(program, window):
    """As answer_at, of a window of as many rounds as the program has."""
    if isinstance(program.problem, PathProblem):
        names, middle = _path_part(window)
        whole = window[0] == 0 and window[-1] == 0
    else:
        turn = _turn(window)
        whole = turn < len(window)
        names = window[:turn]
        middle = len(window) // 2 % turn
    line = Line(program.problem, names, not whole)
    for stage in program.stages:
        line.step(stage)
    return line.answers[middle]


def answer_at(program, window):
    """What the house in the middle of a window of as many rounds as the program has answers."""
    check_program(program)
    _check_window(program, window)
    if len(window) != 2 * rounds_of(program) + 1:
        raise BadWindow("not of as many rounds as the program")
    return window_answer(program, window)


def begin_window(program, name):
    """The window of no rounds of a house."""
    check_program(program)
    if not is_within(name, 1, MOST_NAME):
        raise BadNumber("name")
    return (name,)


def next_window(program, window, left, right):
    """The window of one round more, by those of the neighbours; None where nobody stands."""
    check_program(program)
    _check_window(program, window)
    path = isinstance(program.problem, PathProblem)
    for beside in (left, right):
        if beside is not None or not path:
            _check_window(program, beside)
            if len(beside) != len(window):
                raise BadWindow("not of as many rounds")
    ahead = 0 if left is None else left[0]
    behind = 0 if right is None else right[-1]
    return (ahead,) + window + (behind,)


def label_of(program, window):
    """What a house with a window answers, None if this is of too few rounds."""
    check_program(program)
    _check_window(program, window)
    more = len(window) // 2 - rounds_of(program)
    return None if more < 0 else window_answer(program, window[more:len(window) - more])
