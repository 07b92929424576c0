"""Promise 55: problems in which more than two houses are looked at."""

import copy
import itertools
import random
import unittest

from roundwright.errors import BadLabelling, BadProblem, TooMany
from roundwright.problems import RingProblem, how_many, is_right
from roundwright.wides import WideProblem, as_pairs, brought, brought_back, is_right_wide
from tests import brute
from tests.brute import STRANGE, raised


def random_wide(rng):
    labels, width = rng.choice(((1, 2), (2, 2), (3, 2), (2, 3), (3, 3), (2, 4), (2, 5)))
    every = list(itertools.product(range(labels), repeat=width))
    return WideProblem(labels, width, brute.some_of(rng, every, rng.choice((0.3, 0.6, 0.9))))


class TestWides(unittest.TestCase):
    def test_against_all_labellings(self):
        rng = random.Random(691)
        for _ in range(150):
            problem = random_wide(rng)
            before = copy.deepcopy(problem)
            pairs, names = as_pairs(problem) if len(self.names(problem)) <= 12 else (None, None)
            if pairs is None:
                self.assertEqual(raised(TooMany, as_pairs, problem).most, 12)
                continue
            self.assertEqual(names, self.names(problem))
            self.assertEqual(pairs.labels, max(1, len(names)))
            self.assertEqual(pairs.pairs, tuple(sorted(
                (names.index(window[:-1]), names.index(window[1:])) for window in problem.windows)))
            for size in range(1, 7):
                right = []
                for line in itertools.product(range(problem.labels), repeat=size):
                    good = all(tuple(line[(at + step) % size] for step in range(problem.width)) in problem.windows
                               for at in range(size))
                    self.assertIs(is_right_wide(problem, line), good)
                    right += [line] if good else []
                found = [brought(problem, line) for line in right]
                self.assertTrue(all(is_right(pairs, line) for line in found))
                self.assertEqual([brought_back(problem, line) for line in found], right)
                self.assertEqual(len(set(found)), len(right))
                self.assertEqual(how_many(pairs, size), len(right))
            self.assertEqual(problem, before)

    def names(self, problem):
        return tuple(sorted({window[:-1] for window in problem.windows} | {window[1:] for window in problem.windows}))

    def test_attributes(self):
        windows = [(1, 0), (0, 1)]
        problem = WideProblem(labels=2, width=2, windows=windows)
        windows.append((0, 0))
        self.assertEqual((problem.labels, problem.width, problem.windows), (2, 2, ((0, 1), (1, 0))))
        self.assertEqual(problem, WideProblem(2, 2, ((0, 1), (1, 0))))
        for other in (WideProblem(3, 2, windows[:2]), WideProblem(2, 2, windows), RingProblem(2, windows[:2]), None):
            self.assertFalse(problem == other)
        self.assertEqual(as_pairs(problem), (RingProblem(2, [(0, 1), (1, 0)]), ((0,), (1,))))
        self.assertEqual(as_pairs(problem=WideProblem(12, 5, [])), (RingProblem(1, []), ()))
        self.assertFalse(is_right_wide(WideProblem(12, 5, []), (0,)))
        self.assertEqual(brought(problem=problem, labelling=(0, 1)), (0, 1))
        self.assertEqual(brought_back(problem=problem, labelling=(1, 0)), (1, 0))

    def test_limits(self):
        line = [tuple((at + step) % 12 for step in range(5)) for at in range(12)]
        problem = WideProblem(12, 5, line)
        pairs, names = as_pairs(problem)
        self.assertEqual((pairs.pairs, len(names)), (brute.LINE_12.pairs, 12))
        ring = tuple(range(12)) * 33
        self.assertEqual(brought_back(problem, brought(problem, ring)), ring)
        self.assertEqual(raised(TooMany, as_pairs, WideProblem(12, 5, line + [(0, 0, 0, 0, 0)])).most, 12)
        every = WideProblem(12, 5, [window for window in itertools.product(range(12), repeat=5) if window[0] < 2])
        for call in (brought, brought_back):
            self.assertEqual(raised(TooMany, call, every, None).most, 12)

    def test_wrong_values(self):
        for labels in (0, 13, True, None, 1.0):
            self.assertEqual(raised(BadProblem, WideProblem, labels, None, None).part, "labels")
        for width in (1, 6, True, None, 2.0):
            self.assertEqual(raised(BadProblem, WideProblem, 12, width, None).part, "width")
        for windows in (None, "ab", {}, 3, [(0,)], [(0, 2)], [[0, 1]], [(0, 1), (0, 1)], [(0, True)], [None], [(0, 1, 1)],
                        [(0, -1)], [brute.Odd()], [(0, 1.0)]):
            self.assertEqual(raised(BadProblem, WideProblem, 2, 2, windows).part, "windows")
        problem = WideProblem(2, 2, [(0, 1), (1, 0)])
        for thing in STRANGE + (brute.CHESS,):
            for call in (is_right_wide, brought, brought_back):
                self.assertIsNone(raised(BadProblem, call, thing, None).part)
            self.assertIsNone(raised(BadProblem, as_pairs, thing).part)
        for line in STRANGE + ((0,), (0, 1, 0), [0, 1], (False, True), (0, 2), (0, 1) * 201, ()):
            self.assertIs(is_right_wide(problem, line), False)
            raised(BadLabelling, brought, problem, line)
            raised(BadLabelling, brought_back, problem, line)


if __name__ == "__main__":
    unittest.main()
