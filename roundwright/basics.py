"""What the modules share: kinds of values, and walks among few numbers, whose sets are kept as bits.

The bit at place n of a set tells whether n is in it. Rows are a list with one such set for each number: those that
it leads to.
"""

from math import gcd


def is_number(thing):
    """Whether it is an int that is not a bool."""
    return isinstance(thing, int) and not isinstance(thing, bool)


def is_within(thing, low, high):
    """Whether it is a number from low to high."""
    return is_number(thing) and low <= thing <= high


def is_listed(thing):
    """Whether it counts as a list."""
    return isinstance(thing, (list, tuple))


def is_pair(thing):
    """Whether it is a tuple of two things."""
    return isinstance(thing, tuple) and len(thing) == 2


def are_within(things, low, high):
    """Whether all of a list are numbers from low to high."""
    return all([is_within(thing, low, high) for thing in things])


def is_tuple_of(thing, low, high):
    """Whether it is a tuple of numbers from low to high."""
    return isinstance(thing, tuple) and are_within(thing, low, high)


def is_line_of(thing, most, low, high):
    """Whether it is a tuple of 1 to most numbers from low to high."""
    return isinstance(thing, tuple) and 1 <= len(thing) <= most and are_within(thing, low, high)


def is_pair_of(thing, low, high):
    """Whether it is a tuple of two numbers from low to high."""
    return is_pair(thing) and are_within(thing, low, high)


def are_unlike(things):
    """Whether no two of a list are alike; they are numbers or tuples of numbers."""
    return len(set(things)) == len(things)


def are_pairs(things, low, high):
    """Whether it is a list of pairs of numbers from low to high, no two alike."""
    return is_listed(things) and all([is_pair_of(thing, low, high) for thing in things]) and are_unlike(things)


def are_numbers(things, low, high):
    """Whether it is a list of numbers from low to high, no two alike."""
    return is_listed(things) and are_within(things, low, high) and are_unlike(things)


def is_order(thing, size):
    """Whether it is a list of all numbers below size, each once."""
    return are_numbers(thing, 0, size - 1) and len(thing) == size


def are_answers(answers, windows, labels):
    """Whether it is a dict from just these windows (tuples of numbers, no two alike) to numbers below labels."""
    if not isinstance(answers, dict) or len(answers) != len(windows):
        return False
    # A dict finds 1.0 and True where 1 is asked for: the kinds are judged on the keys themselves.
    if not all([isinstance(key, tuple) and all([is_number(number) for number in key]) for key in answers]):
        return False
    return all([window in answers and is_within(answers[window], 0, labels - 1) for window in windows])


def bits_of(numbers):
    """The set of these numbers."""
    found = 0
    for number in numbers:
        found = found | 1 << number
    return found


def numbers_of(held):
    """The ascending list of the numbers of a set."""
    # The digits in twos are gone through at once: shifting a great set for each number takes far longer.
    return [number for number, digit in enumerate(f"{held:b}"[::-1]) if digit == "1"]


def least_of(held):
    """The least number of a set that is not empty."""
    return (held & -held).bit_length() - 1


def rows_of(size, pairs):
    """The rows in which the first number of each pair leads to its second one."""
    rows = [0] * size
    for one, other in pairs:
        rows[one] = rows[one] | 1 << other
    return rows


def columns_of(size, pairs):
    """The rows in which the second number of each pair leads to its first one."""
    return rows_of(size, [(other, one) for one, other in pairs])


def spread(rows, held):
    """The set of what the numbers of a set lead to."""
    if held and held & (held - 1) == 0:
        return rows[held.bit_length() - 1]
    found = 0
    for number, row in enumerate(rows):
        if held >> number & 1:
            found = found | row
    return found


def _leading(rows, held):
    """The set of the numbers that lead to some number of a set."""
    found = 0
    for number, row in enumerate(rows):
        if row & held:
            found = found | 1 << number
    return found


def closure(rows):
    """The rows in which each number leads to all that walks of at least one step lead to."""
    found = list(rows)
    for middle in range(len(rows)):
        for number in range(len(rows)):
            if found[number] >> middle & 1:
                found[number] = found[number] | found[middle]
    return found


def tied(allowed, first, last):
    """The same sets, but the first one only with what is in first, the last one only with what is in last."""
    found = list(allowed)
    found[0] = found[0] & first
    found[-1] = found[-1] & last
    return found


def tied_rounds(columns, allowed):
    """For each number the sets of a line that begins with it and ends with what leads to it."""
    return [tied(allowed, 1 << number, column) for number, column in enumerate(columns)]


def _good(rows, allowed):
    # For each place the numbers allowed from which a walk goes on to the end.
    found = list(allowed)
    for place in range(len(allowed) - 2, -1, -1):
        found[place] = allowed[place] & _leading(rows, found[place + 1])
    return found


def has_line(rows, allowed):
    """Whether some walk has at each place a number of the set that is allowed there."""
    return _good(rows, allowed)[0] != 0


def least_line(rows, allowed):
    """The least walk with a number of the set allowed at each place, None without one."""
    good = _good(rows, allowed)
    if good[0] == 0:
        return None
    line = [least_of(good[0])]
    for held in good[1:]:
        line.append(least_of(rows[line[-1]] & held))
    return tuple(line)


def least_of_lines(rows, choices):
    """The least walk of the first of the choices (lists of sets allowed) that has one, None without one."""
    for allowed in choices:
        line = least_line(rows, allowed)
        if line is not None:
            return line
    return None


def count_lines(rows, allowed):
    """How many walks have at each place a number of the set allowed there."""
    ways = [1] * len(rows)
    following = [numbers_of(row) for row in rows]
    for place in range(len(allowed) - 1, -1, -1):
        if place < len(allowed) - 1:
            ways = [sum([ways[number] for number in group]) for group in following]
        ways = [many if allowed[place] >> number & 1 else 0 for number, many in enumerate(ways)]
    return sum(ways)


def return_sizes(rows, number, most):
    """The ascending list of the numbers of steps from 1 to most in which walks lead from a number to itself."""
    found = []
    held = 1 << number
    for size in range(1, most + 1):
        held = spread(rows, held)
        if held >> number & 1:
            found.append(size)
    return found


def period_of(rows, number):
    """The greatest number that divides the steps of all walks from a number to itself, 0 if there are none."""
    # A walk around another number that leads to this one and back, and the ways there and back, have at most three
    # times as many steps together as there are numbers, and so have the ways alone: these sizes tell enough.
    period = 0
    for size in return_sizes(rows, number, 3 * len(rows)):
        period = gcd(period, size)
    return period


def mates_of(rows):
    """For each number the set of those to which walks lead and from which they lead back; itself, if one returns."""
    after = closure(rows)
    found = []
    for number, row in enumerate(after):
        found.append(bits_of([other for other in numbers_of(row) if after[other] >> number & 1]))
    return found


def height_ranks(rows):
    """For each number how many lead to it: fewer than to one to which it leads, but for the mates of each other."""
    after = closure(rows)
    size = len(rows)
    return [sum([1 for one in range(size) if one == number or after[one] >> number & 1]) for number in range(size)]


def steps_between(rows, one, other):
    """The fewest steps from a number to another one to which it leads."""
    held = 1 << one
    steps = 0
    while not held >> other & 1:
        held = spread(rows, held)
        steps += 1
    return steps
