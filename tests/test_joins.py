"""Promise 26: problems made of problems."""

import itertools
import random
import unittest

from roundwright.classes import class_of
from roundwright.errors import BadProblem, TooMany
from roundwright.joins import backwards, crossed, joined
from roundwright.problems import PathProblem, RingProblem, how_many, some_labelling
from tests import brute
from tests.brute import STRANGE, raised

ORDER = ("never", "stiff", "bending", "loop")


def couples(seed, many, most=3):
    rng = random.Random(seed)
    found = []
    for _ in range(many):
        make = rng.choice((brute.random_ring, brute.random_path))
        found.append((make(rng, rng.randint(1, most)), make(rng, rng.randint(1, most))))
    return found


def sizes(problem, most=30):
    return [size for size in range(1, most) if some_labelling(problem, size) is not None]


class TestJoins(unittest.TestCase):
    def test_by_hand(self):
        one = PathProblem(2, [(0, 1)], [0], [1])
        other = PathProblem(3, [(0, 2), (1, 1)], [1, 2], [0])
        self.assertEqual(joined(one, other), PathProblem(5, [(0, 1), (2, 4), (3, 3)], [0, 3, 4], [1, 2]))
        self.assertEqual(crossed(one, other), PathProblem(6, [(0, 5), (1, 4)], [1, 2], [3]))
        self.assertEqual(backwards(other), PathProblem(3, [(2, 0), (1, 1)], [0], [1, 2]))
        self.assertEqual(joined(brute.CHESS, RingProblem(1, [(0, 0)])), RingProblem(3, [(0, 1), (1, 0), (2, 2)]))
        self.assertEqual(crossed(brute.CHESS, RingProblem(1, [(0, 0)])), brute.CHESS)

    def test_labellings(self):
        for problem, other in couples(21, 60):
            for size in range(1, 4):
                lines = brute.slow_labellings(problem, size)
                others = brute.slow_labellings(other, size)
                self.assertEqual(how_many(joined(problem, other), size), len(lines) + len(others))
                self.assertEqual(how_many(crossed(problem, other), size), len(lines) * len(others))
                told = [tuple(a * other.labels + b for a, b in zip(x, y)) for x in lines for y in others]
                self.assertEqual(sorted(told), brute.slow_labellings(crossed(problem, other), size))
                turned = sorted(line[::-1] for line in lines)
                self.assertEqual(turned, brute.slow_labellings(backwards(problem), size))

    def test_sizes_and_classes(self):
        for problem, other in couples(22, 150):
            ones, others = sizes(problem), sizes(other)
            classes = [class_of(problem), class_of(other)]
            self.assertEqual(sizes(joined(problem, other)), sorted(set(ones) | set(others)))
            self.assertEqual(sizes(crossed(problem, other)), sorted(set(ones) & set(others)))
            self.assertEqual(sizes(backwards(problem)), ones)
            self.assertEqual(class_of(joined(problem, other)), max(classes, key=ORDER.index))
            self.assertEqual(class_of(backwards(problem)), classes[0])
            found = class_of(crossed(problem, other))
            if not brute.is_ring(problem) and classes == ["stiff", "stiff"]:
                self.assertIn(found, ("stiff", "never"))
            else:
                self.assertEqual(found, min(classes, key=ORDER.index))

    def test_limits(self):
        six, seven = RingProblem(6, []), RingProblem(7, [])
        self.assertEqual(joined(six, six).labels, 12)
        self.assertEqual(raised(TooMany, joined, six, seven).most, 12)
        self.assertEqual(crossed(six, RingProblem(2, [])).labels, 12)
        self.assertEqual(crossed(brute.WHOLE_12, RingProblem(1, [(0, 0)])), brute.WHOLE_12)
        self.assertEqual(raised(TooMany, crossed, seven, RingProblem(2, [])).most, 12)
        path = PathProblem(12, [], [], [])
        self.assertEqual(raised(TooMany, joined, path, path).most, 12)
        self.assertEqual(backwards(brute.WIELANDT_12).labels, 12)

    def test_wrong_values(self):
        for call in (joined, crossed):
            for thing in STRANGE:
                self.assertIsNone(raised(BadProblem, call, thing, thing).part)
                self.assertIsNone(raised(BadProblem, call, brute.CHESS, thing).part)
                self.assertIsNone(raised(BadProblem, call, thing, brute.CHESS_PATH).part)
            self.assertEqual(raised(BadProblem, call, brute.CHESS, brute.CHESS_PATH).part, "kind")
            great = PathProblem(12, [], [], [])
            self.assertEqual(raised(BadProblem, call, great, brute.WHOLE_12).part, "kind")
        for thing in STRANGE:
            self.assertIsNone(raised(BadProblem, backwards, thing).part)

    def test_nothing_handed_in_changes(self):
        for problem, other in itertools.islice(couples(23, 20), 20):
            before = (problem.labels, problem.pairs, other.labels, other.pairs)
            joined(problem, other), crossed(problem, other), backwards(problem)
            self.assertEqual((problem.labels, problem.pairs, other.labels, other.pairs), before)


if __name__ == "__main__":
    unittest.main()
