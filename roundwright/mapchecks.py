"""Whether there can be a map from a web into another one, by what is seen quickly.

Where there is none since rows of places are too long, or since a web made of arcs has more of them than gates allow,
going through images place by place would take far too long.
"""

from roundwright.basics import numbers_of
from roundwright.errors import TooMany
from roundwright.gates import stepped_with_sets
from roundwright.maphunt import MapHunt
from roundwright.rows import RowSearch
from roundwright.webs import Web, loops_of, web_columns, web_rows

# Rows of greater webs are not searched for.
_MOST_SEARCHED = 256
# So often it is tried to make a row long enough.
_TRIES = 3000
# So many places are tried as the first one of a row.
_FIRSTS = 8


def _many(held):
    return f"{held:b}".count("1")


def _some_row(rows):
    # How many places a rather long row has.
    best = 0
    firsts = sorted([(-_many(row), place) for place, row in enumerate(rows)])[:_FIRSTS]
    for _, place in firsts:
        many = 1
        held = rows[place]
        while held:
            _, place = max([(_many(held & rows[at]), -at) for at in numbers_of(held)])
            held = held & rows[-place]
            many += 1
        best = max(best, many)
    return best


def _has_long_rows(one, other):
    # Whether some row of a web is longer than all rows of another one, which has no loop.
    if other.size > _MOST_SEARCHED:
        return False
    rows, columns = web_rows(one), web_columns(one)
    image_rows, image_columns = web_rows(other), web_columns(other)
    both = [row & column for row, column in zip(rows, columns)]
    image_both = [row & column for row, column in zip(image_rows, image_columns)]
    full = (1 << other.size) - 1
    if not RowSearch(image_both, image_both, _TRIES).reaches(full, _some_row(both)):
        return True
    return not RowSearch(image_rows, image_columns, _TRIES).reaches(full, _some_row(rows))


def unarced(web):
    """A web of at most half as many places whose arcs, but for such as are alike, are the places of a web; or None."""
    tails = {}
    numbers = {}
    for row in {row: True for row in web_rows(web) if row}:
        numbers[row] = len(numbers)
        for place in numbers_of(row):
            if place in tails:
                return None
            tails[place] = numbers[row]
    many = len(numbers)
    pairs = {}
    for place, row in enumerate(web_rows(web)):
        # A place to which none leads begins at a place of its own, one that leads nowhere ends at one.
        tail, many = (tails[place], many) if place in tails else (many, many + 1)
        head, many = (numbers[row], many) if row else (many, many + 1)
        pairs[(tail, head)] = True
    return Web(many, list(pairs)) if 2 * many <= web.size else None


def _step(one, other):
    # A pair of webs between which there is a map just if there is one between these; None if none is seen.
    tails = unarced(one)
    if tails is None:
        return None
    try:
        return tails, stepped_with_sets(other)[0]
    except TooMany:
        return None


def can_have_map(one, other):
    """False only if there is no map from a web into another one."""
    steps = 0
    while one.pairs and not loops_of(other):
        if loops_of(one) or not other.pairs or _has_long_rows(one, other):
            return False
        step = _step(one, other)
        if step is None:
            break
        one, other = step
        steps += 1
    return steps == 0 or MapHunt(one, other).found([]) is not None
