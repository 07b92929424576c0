"""The sizes at which rings without a direction have a right side labelling."""

from roundwright.basics import is_within, return_sizes, rows_of
from roundwright.errors import BadNumber
from roundwright.sides import check_sides, side_steps

_MOST_SIZE = 1000000000
# Few labels: from this size on the sizes repeat themselves, with a period of at most 6. Closed walks among at most
# 6 labels have all numbers of steps that their greatest common divisor divides, from 26 on at the latest; and the
# divisors of parts that have at most 6 labels together have a common multiple of at most 6.
_SURE_SIZE = 30
_MOST_PERIOD = 6
_LAST_SIZE = 60


def _sizes_told(problem):
    # For each number up to the last size whether there is a right side labelling of so many houses.
    rows = rows_of(2 * problem.labels, side_steps(problem))
    told = [False] * (_LAST_SIZE + 1)
    for label in range(problem.labels):
        for steps in return_sizes(rows, label, 2 * _LAST_SIZE):
            told[steps // 2] = True
    return told


def _is_period(told, period):
    return all([told[size] == told[size + period] for size in range(_SURE_SIZE, _LAST_SIZE - period + 1)])


def side_sizes(problem):
    """The triple (first, period, sizes) of all sizes that have a right side labelling."""
    check_sides(problem)
    told = _sizes_told(problem)
    period = [many for many in range(1, _MOST_PERIOD + 1) if _is_period(told, many)][0]
    first = _SURE_SIZE
    while first > 1 and told[first - 1] == told[first - 1 + period]:
        first -= 1
    return (first, period, tuple([size for size in range(1, first + period) if told[size]]))


def is_side_size(problem, size):
    """Whether there is a right side labelling of so many houses."""
    check_sides(problem)
    if not is_within(size, 1, _MOST_SIZE):
        raise BadNumber("size")
    first, period, sizes = side_sizes(problem)
    return (size if size < first else first + (size - first) % period) in sizes
