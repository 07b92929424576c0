"""Pieces: the tuples of labels that stand, one behind the other, in right labellings of rings."""

from roundwright.basics import bits_of, count_lines, is_tuple_of, is_within, least_line, numbers_of, spread
from roundwright.errors import BadNumber, BadPiece, TooMany
from roundwright.parts import round_mates
from roundwright.problems import all_labels, check_ring, problem_rows

MOST_PIECES = 4000
_MOST_MANY = 8
_MOST_LABELS = 100


def part_rows(problem):
    """For each label the set of those of its part that may stand next behind it; none if it is of no part."""
    return [row & mates for row, mates in zip(problem_rows(problem), round_mates(problem))]


def _is_piece(problem, thing):
    if not is_tuple_of(thing, 0, problem.labels - 1) or thing == ():
        return False
    rows = part_rows(problem)
    return rows[thing[0]] != 0 and all([rows[one] >> other & 1 for one, other in zip(thing[:-1], thing[1:])])


def can_stand_in_ring(problem, thing):
    """Whether a thing is a piece: labels that stand, one behind the other, in a right labelling of some ring."""
    check_ring(problem)
    return _is_piece(problem, thing)


def _beginning(rows):
    return [label for label, row in enumerate(rows) if row]


def count_pieces(problem, many):
    """How many pieces of so many labels there are."""
    rows = part_rows(problem)
    return count_lines(rows, [bits_of(_beginning(rows))] + [all_labels(problem)] * (many - 1))


def all_pieces(problem, many):
    """The ascending list of all pieces of so many labels, TooMany(4000) if there are more."""
    if count_pieces(problem, many) > MOST_PIECES:
        raise TooMany(MOST_PIECES)
    rows = part_rows(problem)
    following = [numbers_of(row) for row in rows]
    found = [(label,) for label in _beginning(rows)]
    for _ in range(many - 1):
        found = [piece + (label,) for piece in found for label in following[piece[-1]]]
    return found


def pieces(problem, many):
    """The ascending list of all pieces of so many labels."""
    check_ring(problem)
    if not is_within(many, 1, _MOST_MANY):
        raise BadNumber("many")
    return all_pieces(problem, many)


def ring_with(problem, piece):
    """The least of the smallest right labellings, of at least as many houses, that begin with a piece."""
    check_ring(problem)
    if not _is_piece(problem, piece) or len(piece) > _MOST_LABELS:
        raise BadPiece("not a piece of at most 100 labels")
    rows = problem_rows(problem)
    first = 1 << piece[0]
    steps = 1
    held = rows[piece[-1]]
    while not held & first:
        held = spread(rows, held)
        steps += 1
    closing = least_line(rows, [1 << piece[-1]] + [all_labels(problem)] * (steps - 1) + [first])
    return piece + closing[1:-1]
