"""Sets of sizes that repeat themselves from some size on."""

from math import lcm

from roundwright.basics import is_listed, is_number, is_within
from roundwright.errors import BadNumber, BadSizes, TooMany

_MOST = 200


class Sizes:
    """A set of numbers from 1 on: told for the first begin + period of them, then repeated with this period."""

    def __init__(self, begin, period, told):
        if not is_within(begin, 0, _MOST):
            raise BadSizes("begin")
        if not is_within(period, 1, _MOST):
            raise BadSizes("period")
        if not is_listed(told) or len(told) != begin + period or not all([isinstance(truth, bool) for truth in told]):
            raise BadSizes("told")
        self.begin = begin
        self.period = period
        self.told = tuple(told)

    def __eq__(self, other):
        if not isinstance(other, Sizes):
            return False
        return self.begin == other.begin and self.period == other.period and self.told == other.told


def _check_sizes(sizes):
    if not isinstance(sizes, Sizes):
        raise BadSizes(None)


def _check_size(sizes, size):
    _check_sizes(sizes)
    if not is_number(size) or size < 1:
        raise BadNumber("size")


def _has(sizes, size):
    if size <= sizes.begin:
        return sizes.told[size - 1]
    return sizes.told[sizes.begin + (size - sizes.begin - 1) % sizes.period]


def has_size(sizes, size):
    """Whether a size is in the set."""
    _check_size(sizes, size)
    return _has(sizes, size)


def next_size(sizes, size):
    """The least size from this one on that is in the set, None without one."""
    _check_size(sizes, size)
    for later in range(size, max(size, sizes.begin + 1) + sizes.period):
        if _has(sizes, later):
            return later
    return None


def how_many_sizes(sizes):
    """How many sizes are in the set, None if they have no end."""
    _check_sizes(sizes)
    if any(sizes.told[sizes.begin:]):
        return None
    return sum([1 for truth in sizes.told if truth])


def least_told(begin, period, told):
    """The least Sizes of a set told as Sizes are, but with any begin and period; TooMany(200) if it is too great."""
    line = list(told)
    repeated = line[begin:]
    least = period
    for shorter in range(period, 0, -1):
        if period % shorter == 0 and repeated == repeated[shorter:] + repeated[:shorter]:
            least = shorter
    while begin > 0 and line[begin - 1] == line[begin - 1 + least]:
        begin -= 1
    if begin > _MOST or least > _MOST:
        raise TooMany(_MOST)
    return Sizes(begin, least, line[:begin + least])


def least_sizes(sizes):
    """The Sizes of the same set with the least period, and with it the least begin."""
    _check_sizes(sizes)
    return least_told(sizes.begin, sizes.period, sizes.told)


def _side_by_side(sizes, other):
    # The begin and the period that both sets have, and what both tell of each size up to the sum of these.
    _check_sizes(sizes)
    _check_sizes(other)
    begin = max(sizes.begin, other.begin)
    period = lcm(sizes.period, other.period)
    told = [(_has(sizes, size), _has(other, size)) for size in range(1, begin + period + 1)]
    return begin, period, told


def both_sizes(sizes, other):
    """The least Sizes of what is in both sets."""
    begin, period, told = _side_by_side(sizes, other)
    return least_told(begin, period, [one and two for one, two in told])


def either_sizes(sizes, other):
    """The least Sizes of what is in at least one of two sets."""
    begin, period, told = _side_by_side(sizes, other)
    return least_told(begin, period, [one or two for one, two in told])


def unlike_size(sizes, other):
    """The least size that is in just one of two sets, None without one."""
    _, _, told = _side_by_side(sizes, other)
    for at, (one, two) in enumerate(told):
        if one != two:
            return at + 1
    return None
