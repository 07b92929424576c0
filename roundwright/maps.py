"""Maps from a web into another one."""

from roundwright.basics import is_within, least_of
from roundwright.errors import BadNumber
from roundwright.mapchecks import can_have_map
from roundwright.maphunt import MapHunt
from roundwright.webs import check_webs, is_web_map

_MOST_MAPS = 200
# So many dead ends are borne in going straight to the least map, before it is asked how far it goes on.
_STRAIGHT = 100


def is_map(one, other, thing):
    """Whether a thing is a map from a web into another one."""
    check_webs(one, other)
    return is_web_map(one, other, thing)


def _first_wrong(hunt, assumed, tried):
    # How many of what was tried, one behind the other, can be kept.
    low = 0
    high = len(tried)
    while low < high:
        middle = (low + high + 1) // 2
        if hunt.found(assumed + tried[:middle]) is None:
            high = middle - 1
        else:
            low = middle
    return low


def _least(hunt, goes_on):
    # The pair of the least map of a hunt as sets of one place each, None without one, and of what was assumed.
    assumed = []
    while True:
        found, tried = hunt.least_found(assumed, _STRAIGHT, goes_on)
        goes_on = False
        if tried is None:
            return found, assumed
        many = _first_wrong(hunt, assumed, tried)
        if many == 0 and not assumed and hunt.found([]) is None:
            return None, assumed
        assumed = assumed + tried[:many]
        if many < len(tried):
            place, image = tried[many]
            assumed.append((place, ~image))


def _map_of(sets):
    return tuple([least_of(held) for held in sets])


def some_map(one, other):
    """The least map from a web into another one, None without one."""
    check_webs(one, other)
    if not can_have_map(one, other):
        return None
    found, _ = _least(MapHunt(one, other), False)
    return None if found is None else _map_of(found)


def first_maps(one, other, most):
    """The ascending list of the least maps, so many of them, or all if there are fewer."""
    check_webs(one, other)
    if not is_within(most, 0, _MOST_MAPS):
        raise BadNumber("most")
    found = []
    if most == 0 or not can_have_map(one, other):
        return found
    hunt = MapHunt(one, other)
    sets, assumed = _least(hunt, False)
    while sets is not None:
        found.append(_map_of(sets))
        if len(found) == most:
            break
        # What was assumed was so for this map alone.
        goes_on = hunt.leave_this(assumed)
        sets, assumed = _least(hunt, goes_on)
    return found
