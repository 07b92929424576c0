"""Cones: which letters a house needs for its rounds, and to which front houses come if letters are lost."""

from roundwright.basics import is_listed, is_within
from roundwright.errors import BadLetters, BadNumber, TooMany
from roundwright.fronts import MOST_FRONT, check_front
from roundwright.neighbours import LEFT, RIGHT, check_kind, distance, is_side, least_around, neighbours
from roundwright.problems import MOST_HOUSES

_MOST_ROUNDS = 1000000000
_MOST_LETTERS = 20000


def _check_size(kind, size):
    check_kind(kind)
    if not is_within(size, 1, MOST_HOUSES):
        raise BadNumber("size")


def _check(kind, size, place, rounds, most):
    _check_size(kind, size)
    if not is_within(place, 0, size - 1):
        raise BadNumber("place")
    if not is_within(rounds, 0, most):
        raise BadNumber("rounds")


def _sides(kind, size, place):
    # The sides of a house at which somebody stands.
    return [side for side in (LEFT, RIGHT) if is_side(kind, size, place, side)]


def _count_needed(kind, size, place, rounds):
    return sum([
        max(0, rounds - distance(kind, size, place, other)) * len(_sides(kind, size, other)) for other in range(size)])


def needed(kind, size, place, rounds):
    """The ascending tuple of all letters that a house needs to do so many rounds."""
    _check(kind, size, place, rounds, MOST_FRONT)
    if _count_needed(kind, size, place, rounds) > _MOST_LETTERS:
        raise TooMany(_MOST_LETTERS)
    letters = []
    for other in range(size):
        for side in _sides(kind, size, other):
            for number in range(rounds - distance(kind, size, place, other)):
                letters.append((other, side, number))
    return tuple(letters)


def how_many_needed(kind, size, place, rounds):
    """How many letters a house needs to do so many rounds."""
    _check(kind, size, place, rounds, _MOST_ROUNDS)
    return _count_needed(kind, size, place, rounds)


def _is_letter(kind, size, thing):
    if not isinstance(thing, tuple) or len(thing) != 3:
        return False
    place, side, number = thing
    return is_within(place, 0, size - 1) and is_side(kind, size, place, side) and is_within(number, 0, MOST_FRONT)


def last_front(kind, size, rounds, lost):
    """The front to which houses come that are to do so many rounds, if all letters come but those lost."""
    _check_size(kind, size)
    if not is_within(rounds, 0, MOST_FRONT):
        raise BadNumber("rounds")
    if not is_listed(lost) or not all([_is_letter(kind, size, letter) for letter in lost]):
        raise BadLetters("not a list of letters of these houses")
    numbers = [rounds] * size
    for place, _, number in lost:
        numbers[place] = min(numbers[place], number)
    return tuple(least_around(kind, numbers))


def fewest_lost(kind, front, rounds):
    """The fewest letters without which houses that are to do so many rounds come to this front; None without such."""
    check_front(kind, front)
    if not is_within(rounds, max(front), MOST_FRONT):
        raise BadNumber("rounds")
    size = len(front)
    letters = []
    for place, number in enumerate(front):
        beside = neighbours(kind, size, place)
        if number < rounds and all([front[other] != number - 1 for other in beside]):
            if not beside:
                return None
            letters.append((place, _sides(kind, size, place)[0], number))
    return tuple(letters)
