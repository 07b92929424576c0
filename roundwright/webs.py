"""Webs: places with pairs, each of which leads from its first place to its second one."""

from roundwright.basics import are_pairs, columns_of, is_listed, is_tuple_of, is_within, rows_of
from roundwright.errors import BadNumber, BadWeb, TooMany
from roundwright.problems import check_ring

MOST_PLACES = 4096
MOST_WEB_PAIRS = 50000
_MOST_WHOLE = 200


class Web:
    """The number of places, and the pairs of them."""

    def __init__(self, size, pairs):
        if not is_within(size, 0, MOST_PLACES):
            raise BadWeb("size")
        if not is_listed(pairs) or len(pairs) > MOST_WEB_PAIRS or not are_pairs(pairs, 0, size - 1):
            raise BadWeb("pairs")
        self.size = size
        self.pairs = tuple(sorted(pairs))

    def __eq__(self, other):
        return isinstance(other, Web) and self.size == other.size and self.pairs == other.pairs


def check_web(web):
    """BadWeb(None) unless a Web."""
    if not isinstance(web, Web):
        raise BadWeb(None)


def check_webs(one, other):
    """BadWeb(None) unless both are Webs."""
    check_web(one)
    check_web(other)


def web_rows(web):
    """For each place the set of the places to which it leads."""
    return rows_of(web.size, web.pairs)


def web_columns(web):
    """For each place the set of the places that lead to it."""
    return columns_of(web.size, web.pairs)


def loops_of(web):
    """The ascending list of the places that lead to themselves."""
    return [one for one, other in web.pairs if one == other]


def is_web_map(one, other, thing):
    """Whether a thing is a map from a web into another one."""
    if not is_tuple_of(thing, 0, other.size - 1) or len(thing) != one.size:
        return False
    rows = web_rows(other)
    return all([rows[thing[first]] >> thing[second] & 1 for first, second in one.pairs])


def web_of(problem):
    """The labels of a problem on rings as places, with its pairs."""
    check_ring(problem)
    return Web(problem.labels, problem.pairs)


def _check_size(size):
    if not is_within(size, 0, _MOST_WHOLE):
        raise BadNumber("size")


def whole_web(size):
    """The web of so many places with all pairs of two unlike places."""
    _check_size(size)
    return Web(size, [(one, other) for one in range(size) for other in range(size) if one != other])


def rising_web(size):
    """The web of so many places in which each leads to all greater ones."""
    _check_size(size)
    return Web(size, [(one, other) for one in range(size) for other in range(one + 1, size)])


def turned_web(web):
    """The web with each pair the other way round."""
    check_web(web)
    return Web(web.size, [(other, one) for one, other in web.pairs])


def check_many(places, pairs):
    """TooMany for more places, then for more pairs than a web may have."""
    if places > MOST_PLACES:
        raise TooMany(MOST_PLACES)
    if pairs > MOST_WEB_PAIRS:
        raise TooMany(MOST_WEB_PAIRS)


def arc_web(web):
    """The web of the pairs of a web, in which a pair leads to those that begin where it ends."""
    check_web(web)
    begun = [[] for _ in range(web.size)]
    for number, pair in enumerate(web.pairs):
        begun[pair[0]].append(number)
    check_many(len(web.pairs), sum([len(begun[other]) for _, other in web.pairs]))
    return Web(len(web.pairs), [(number, on) for number, pair in enumerate(web.pairs) for on in begun[pair[1]]])
