"""Who stands beside whom on rings and paths, told by places."""

from roundwright.basics import is_number, is_within
from roundwright.errors import BadNumber

LEFT = 0
RIGHT = 1


def check_kind(kind):
    """BadNumber("kind") unless "ring" or "path"."""
    if not isinstance(kind, str) or kind not in ("ring", "path"):
        raise BadNumber("kind")


def neighbour(kind, size, place, side):
    """The place of the house at a side of a house, None if nobody stands there."""
    beside = place - 1 if side == LEFT else place + 1
    if kind == "ring":
        return beside % size
    return beside if 0 <= beside < size else None


def neighbours(kind, size, place):
    """The list of the places of the houses at the left and at the right side of a house, where somebody stands."""
    both = [neighbour(kind, size, place, side) for side in (LEFT, RIGHT)]
    return [beside for beside in both if beside is not None]


def is_place_deed(kind, size, thing):
    """Whether a thing is a deed of houses: a letter handed at a side where somebody stands, or a round."""
    if not isinstance(thing, tuple) or len(thing) < 2 or not isinstance(thing[0], str):
        return False
    if not is_within(thing[1], 0, size - 1):
        return False
    if thing[0] == "round":
        return len(thing) == 2
    if thing[0] != "hand" or len(thing) != 4 or not is_side(kind, size, thing[1], thing[2]):
        return False
    return is_number(thing[3]) and thing[3] >= 0


def distance(kind, size, one, other):
    """How many steps from house to neighbour lead from one house to another one, the fewest."""
    apart = abs(one - other)
    return min(apart, size - apart) if kind == "ring" else apart


def is_side(kind, size, place, side):
    """Whether a thing is a side of the house at a place at which somebody stands."""
    return is_number(side) and side in (LEFT, RIGHT) and neighbour(kind, size, place, side) is not None


def least_around(kind, numbers):
    """For each house the least of all numbers, each with the distance of its house added."""
    size = len(numbers)
    found = list(numbers)
    # Twice along the houses both ways: on a ring what is near may stand at the other end of the line.
    line = list(range(size)) + list(range(size))
    for side, places in ((LEFT, line), (RIGHT, line[::-1])):
        for place in places:
            beside = neighbour(kind, size, place, side)
            if beside is not None:
                found[place] = min(found[place], found[beside] + 1)
    return found
