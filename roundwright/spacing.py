"""Marks on a line of houses that stand about as far apart as told, and hang on the names near them alone."""

from roundwright.basics import are_unlike, is_tuple_of, is_within
from roundwright.errors import BadNet, BadNumber
from roundwright.nets import MOST_NAME

_MOST_GAP = 1000
# Names are below 2 ** 30; so often halved, their digits leave signs from 0 to 5.
_HALVINGS = 4
_DROPPED = (5, 4, 3)


def _halved(signs):
    # Each sign becomes the place and the digit (in twos) of the lowest digit in which it is unlike the next one.
    found = []
    for sign, other in zip(signs, signs[1:] + [None]):
        place = 0
        if other is not None:
            unlike = sign ^ other
            place = (unlike & -unlike).bit_length() - 1
        found.append(2 * place + (sign >> place & 1))
    return found


def _dropped(signs, sign):
    # Each house with this sign takes the least one that none of its neighbours bears.
    found = []
    for ahead, own, behind in zip([None] + signs[:-1], signs, signs[1:] + [None]):
        free = [number for number in range(3) if number not in (ahead, behind)]
        found.append(free[0] if own == sign else own)
    return found


def _stays(signs):
    # For each sign from 0 to 2 whether its house stays: lower ones go ahead of their neighbours.
    stays = [sign == 0 for sign in signs]
    for sign in (1, 2):
        ahead = [False] + stays[:-1]
        behind = stays[1:] + [False]
        stays = [
            own or (number == sign and not one and not other)
            for own, number, one, other in zip(stays, signs, ahead, behind)]
    return stays


def _thinned(names, places):
    # Of places along a line some that are two or three of them apart, told by the names there.
    signs = [names[place] for place in places]
    for _ in range(_HALVINGS):
        signs = _halved(signs)
    for sign in _DROPPED:
        signs = _dropped(signs, sign)
    return [place for place, stays in zip(places, _stays(signs)) if stays]


def spaced_places(names, gap):
    """As spaced, of unlike names."""
    places = list(range(len(names)))
    least = 1
    while least < gap:
        places = _thinned(names, places)
        least = 2 * least
    if not names:
        return ()
    # The first mark is the first house; then what lies between marks far apart is parted into gaps.
    anchors = [0] + [place for place in places if place >= gap]
    marks = []
    for anchor, following in zip(anchors, anchors[1:] + [len(names) + gap - 1]):
        marks.extend(list(range(anchor, following - gap + 1, gap)))
    return tuple(marks)


def spaced(names, gap):
    """Marks of a line of houses with these names, from gap to 2 * gap - 1 apart."""
    if not is_tuple_of(names, 1, MOST_NAME) or not are_unlike(names):
        raise BadNet("not a tuple of unlike names")
    if not is_within(gap, 1, _MOST_GAP):
        raise BadNumber("gap")
    return spaced_places(names, gap)
