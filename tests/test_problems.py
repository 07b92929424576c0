"""Promise 10: problems and their labellings."""

import itertools
import random
import unittest

from roundwright.errors import BadLabelling, BadNumber, BadProblem
from roundwright.problems import PathProblem, RingProblem, first_break, how_many, is_right, some_labelling
from tests import brute
from tests.brute import STRANGE, raised


class TestMaking(unittest.TestCase):
    def test_attributes(self):
        problem = RingProblem(3, [(2, 0), (0, 1), (1, 2)])
        self.assertEqual((problem.labels, problem.pairs), (3, ((0, 1), (1, 2), (2, 0))))
        path = PathProblem(3, ((2, 0), (0, 1)), [2, 0], (1,))
        self.assertEqual((path.labels, path.pairs, path.starts, path.ends), (3, ((0, 1), (2, 0)), (0, 2), (1,)))

    def test_by_name(self):
        self.assertEqual(RingProblem(pairs=[(0, 0)], labels=1), RingProblem(1, [(0, 0)]))
        self.assertEqual(PathProblem(ends=[0], starts=[], pairs=[], labels=1), PathProblem(1, [], [], [0]))

    def test_what_is_handed_in_stays_apart(self):
        pairs, starts, ends = [(1, 0), (0, 1)], [1, 0], [1, 0]
        problem = PathProblem(2, pairs, starts, ends)
        self.assertEqual((pairs, starts, ends), ([(1, 0), (0, 1)], [1, 0], [1, 0]))
        pairs.clear()
        starts.clear()
        ends.append(7)
        self.assertEqual(problem, PathProblem(2, [(0, 1), (1, 0)], [0, 1], [0, 1]))

    def test_wrong_labels(self):
        for labels in STRANGE + (0, 13, -1, False, 2.0, (1,)):
            if labels is not True and isinstance(labels, int) and 1 <= labels <= 12 and labels is not False:
                continue
            self.assertEqual(raised(BadProblem, RingProblem, labels, None).part, "labels")
            self.assertEqual(raised(BadProblem, PathProblem, labels, None, None, None).part, "labels")
        self.assertEqual(RingProblem(1, []).labels, 1)
        self.assertEqual(RingProblem(12, []).labels, 12)

    def test_wrong_pairs(self):
        wrong = (
            None, "", {}, 5, [(0, 2)], [(2, 0)], [(-1, 0)], [(0, 1), (0, 1)], [[0, 1]], [(0,)], [(0, 1, 1)],
            [(True, 0)], [(0, False)], [(0, 1.0)], [0, 1], {(0, 1)}, [None], ["01"], [(0, None)])
        for pairs in wrong + tuple([thing] for thing in STRANGE):
            self.assertEqual(raised(BadProblem, RingProblem, 2, pairs).part, "pairs", pairs)
            self.assertEqual(raised(BadProblem, PathProblem, 2, pairs, None, None).part, "pairs", pairs)

    def test_wrong_starts_and_ends(self):
        for wrong in (None, 0, "0", {0}, {}, [2], [-1], [0, 0], [True], [None], [0.0], [(0,)], [[0]], range(2)):
            self.assertEqual(raised(BadProblem, PathProblem, 2, [], wrong, wrong).part, "starts", wrong)
            self.assertEqual(raised(BadProblem, PathProblem, 2, [], (), wrong).part, "ends", wrong)

    def test_equal(self):
        ring = RingProblem(2, [(0, 1)])
        self.assertEqual(ring, RingProblem(2, ((0, 1),)))
        for other in (RingProblem(3, [(0, 1)]), RingProblem(2, [(1, 0)]), PathProblem(2, [(0, 1)], [], []), 2, None):
            self.assertNotEqual(ring, other)
        path = PathProblem(2, [(0, 1)], [0], [1])
        self.assertEqual(path, PathProblem(2, [(0, 1)], (0,), (1,)))
        for parts in ((3, [(0, 1)], [0], [1]), (2, [], [0], [1]), (2, [(0, 1)], [], [1]), (2, [(0, 1)], [0], [])):
            self.assertNotEqual(path, PathProblem(*parts))
        self.assertNotEqual(path, ring)
        self.assertNotEqual(path, (2, ((0, 1),), (0,), (1,)))


class TestRight(unittest.TestCase):
    def test_any_value_is_judged(self):
        problem = RingProblem(2, [(0, 1), (1, 0), (0, 0)])
        for thing in STRANGE + ((), [0, 1], (0, 2), (0, -1), (False, 1), (0, 1.0), (0,) * 401, "01", (0, None)):
            self.assertIs(is_right(problem, thing), False, repr(thing)[:40])
        self.assertIs(is_right(problem, (0, 1)), True)
        self.assertIs(is_right(problem, (0,) * 400), True)
        self.assertIs(is_right(problem, (1,)), False)
        self.assertIs(is_right(problem, (0,)), True)

    def test_against_the_words(self):
        for problem in brute.random_problems(1, 60, 3) + brute.tiny_problems():
            for size in range(1, 5):
                for line in itertools.product(range(problem.labels), repeat=size):
                    expected = brute.slow_right(problem, line)
                    self.assertIs(is_right(problem, line), expected)
                    self.assertIs(first_break(problem, line) is None, expected)

    def test_first_break(self):
        path = PathProblem(3, [(0, 1), (1, 2)], [0], [2])
        self.assertIsNone(first_break(path, (0, 1, 2)))
        self.assertEqual(first_break(path, (1, 1, 1)), ("start", 0))
        self.assertEqual(first_break(path, (0, 0, 0)), ("pair", 0))
        self.assertEqual(first_break(path, (0, 1, 1)), ("pair", 1))
        self.assertEqual(first_break(path, (0, 1)), ("end", 1))
        self.assertEqual(first_break(path, (0,)), ("end", 0))
        self.assertEqual(first_break(path, (2,)), ("start", 0))
        self.assertEqual(first_break(brute.CHESS, (0, 1, 0)), ("pair", 2))
        self.assertEqual(first_break(brute.CHESS, (0,)), ("pair", 0))
        self.assertEqual(first_break(brute.CHESS, (0, 0)), ("pair", 0))
        self.assertIsNone(first_break(brute.CHESS, (1, 0)))

    def test_wrong_values(self):
        for thing in ((), [0, 1], (0, 2), (True,), (0,) * 401, None, "0", (0, None)):
            raised(BadLabelling, first_break, brute.CHESS, thing)
        for thing in STRANGE:
            for call, rest in ((is_right, (0,)), (first_break, None), (some_labelling, None), (how_many, 0)):
                self.assertIsNone(raised(BadProblem, call, thing, rest).part)
        for size in (0, 401, -1, True, None, 2.0, "3", (1,)):
            self.assertEqual(raised(BadNumber, some_labelling, brute.CHESS, size).part, "size")
            self.assertEqual(raised(BadNumber, how_many, brute.CHESS, size).part, "size")


class TestLabellings(unittest.TestCase):
    def test_against_all_labellings(self):
        for problem in brute.random_problems(2, 80, 4) + brute.tiny_problems():
            for size in range(1, 6):
                lines = brute.slow_labellings(problem, size)
                self.assertEqual(how_many(problem, size), len(lines))
                self.assertEqual(some_labelling(problem, size), lines[0] if lines else None)

    def test_rings_and_paths_of_one_and_two(self):
        self.assertIsNone(some_labelling(brute.CHESS, 1))
        self.assertEqual(some_labelling(brute.CHESS, 2), (0, 1))
        self.assertEqual(some_labelling(brute.CHESS_PATH, 1), (0,))
        self.assertEqual(how_many(brute.CHESS, 1), 0)
        self.assertEqual(how_many(brute.CHESS, 2), 2)
        self.assertEqual(how_many(brute.CHESS_PATH, 1), 2)
        self.assertEqual(some_labelling(RingProblem(1, [(0, 0)]), 1), (0,))
        self.assertIsNone(some_labelling(RingProblem(1, []), 1))
        self.assertEqual(some_labelling(PathProblem(1, [], [0], [0]), 1), (0,))
        self.assertIsNone(some_labelling(PathProblem(1, [], [0], [0]), 2))

    def test_the_greatest_sizes(self):
        self.assertEqual(how_many(brute.WHOLE_12, 400), 12 ** 400)
        self.assertEqual(how_many(brute.COLOURS, 400), 2 ** 400 + 2)
        self.assertEqual(how_many(brute.LINE_12, 396), 12)
        self.assertIsNone(some_labelling(brute.LINE_12, 400))
        self.assertEqual(some_labelling(brute.LINE_12, 396), tuple(range(12)) * 33)
        self.assertEqual(some_labelling(brute.COLOURS, 400), (0, 1) * 200)
        self.assertEqual(some_labelling(brute.COLOURS, 399), (0, 1) * 199 + (2,))
        self.assertIsNone(some_labelling(brute.EMPTY_12, 400))
        self.assertEqual(how_many(brute.EMPTY_12, 1), 0)
        rng = random.Random(5)
        path = brute.random_path(rng, 12)
        line = some_labelling(path, 400)
        self.assertTrue(line is None or is_right(path, line))


if __name__ == "__main__":
    unittest.main()
