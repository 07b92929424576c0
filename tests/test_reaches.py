"""Promise 93: how far menders must ever go."""

import math
import random
import unittest

from roundwright.drafts import is_fair
from roundwright.errors import BadNumber, BadProblem
from roundwright.joins import backwards
from roundwright.mends import mended_whole, reach_at
from roundwright.problems import PathProblem, RingProblem, is_right, some_labelling
from roundwright.reaches import mending, stuck
from tests import brute
from tests.brute import STRANGE, raised

GREAT = brute.random_problems(81, 60, 12) + [brute.LINE_12, brute.WIELANDT_12, brute.WHOLE_12, brute.EMPTY_12]


def always_mended(problem, reach):
    """Whether in all fair drafts of at least 2 * reach + 3 houses each house can be mended within reach.

    In a ring of just so many houses what stands farthest off on both sides are neighbours, on a path they are the
    ends: one house more on a ring, two more on a path, make all that can stand around a house possible.
    """
    for size in range(2 * reach + 3, 2 * reach + (5 if brute.is_ring(problem) else 6)):
        for draft in brute.fair_drafts(problem, size):
            for place, label in enumerate(draft):
                if label is None:
                    found = reach_at(problem, draft, place)
                    if found is None or found > reach:
                        return False
    return True


def has_mending(problem):
    """Whether mending is a number, by the words on closed walks."""
    walks = [brute.walks_between(problem.pairs, problem.labels, steps) for steps in range(2 * problem.labels + 12)]
    reach = set().union(*walks)
    closed = [a for a in range(problem.labels) if any((a, a) in held for held in walks[1:problem.labels + 1])]
    if not closed or not all((a, b) in reach for a in closed for b in closed):
        return False
    common = 0
    for steps in range(1, 2 * problem.labels + 12):
        if any((a, a) in walks[steps] for a in closed):
            common = math.gcd(common, steps)
    if common != 1:
        return False
    if brute.is_ring(problem):
        return True
    begun = any((a, b) in reach for a in problem.starts for b in closed)
    return begun and any((a, b) in reach for a in closed for b in problem.ends)


class TestMending(unittest.TestCase):
    def test_against_all_drafts(self):
        seen = set()
        for problem in brute.random_problems(82, 60, 2) + brute.tiny_problems():
            found = mending(problem)
            seen.add(found)
            for reach in range(3):
                self.assertEqual(always_mended(problem, reach), found is not None and found <= reach)
        self.assertLessEqual({None, 0, 1}, seen)

    def test_against_all_drafts_of_three_labels(self):
        seen = set()
        for problem in brute.random_problems(83, 25, 3):
            found = mending(problem)
            seen.add(found)
            for reach in range(2):
                self.assertEqual(always_mended(problem, reach), found is not None and found <= reach)
        self.assertGreater(len(seen), 2)

    def test_a_number_exactly_if_the_walks_say_so(self):
        seen = set()
        for problem in brute.random_problems(84, 300, 5) + brute.tiny_problems() + GREAT:
            found = mending(problem)
            self.assertEqual(found is not None, has_mending(problem))
            self.assertTrue(found is None or 0 <= found <= 150)
            seen.add((found is None, brute.is_ring(problem)))
        self.assertEqual(len(seen), 4)

    def test_by_hand(self):
        self.assertEqual(mending(RingProblem(1, [(0, 0)])), 0)
        self.assertEqual(mending(brute.WHOLE_12), 0)
        self.assertIsNone(mending(brute.EMPTY_12))
        self.assertIsNone(mending(brute.CHESS))
        self.assertIsNone(mending(brute.LINE_12))
        self.assertEqual(mending(brute.COLOURS), 0)
        self.assertIsNone(mending(PathProblem(1, [(0, 0)], [], [0])))
        self.assertEqual(mending(PathProblem(1, [(0, 0)], [0], [0])), 0)

    def test_from_there_on_all_drafts_can_be_mended_whole(self):
        rng = random.Random(85)
        for problem in brute.random_problems(86, 80, 4):
            found = mending(problem)
            if found is None:
                continue
            for size in (2 * found + 3, 2 * found + 4, 2 * found + 9):
                self.assertIsNotNone(some_labelling(problem, size))
                draft = tuple(rng.randrange(problem.labels) if rng.random() < 0.4 else None for _ in range(size))
                if is_fair(problem, draft):
                    line, reaches = mended_whole(problem, draft)
                    self.assertTrue(is_right(problem, line))
                    self.assertLessEqual(max(reaches, default=0), found)

    def test_the_greatest(self):
        found = mending(brute.WIELANDT_12)
        self.assertGreater(found, 50)
        self.assertLessEqual(found, 150)
        line, reaches = mended_whole(brute.WIELANDT_12, (None,) * 400)
        self.assertTrue(is_right(brute.WIELANDT_12, line))
        self.assertLessEqual(max(reaches), found)


class TestStuck(unittest.TestCase):
    def check(self, problem, reach):
        found = mending(problem)
        told = stuck(problem, reach)
        if found is not None and found <= reach:
            self.assertIsNone(told)
            return
        self.assertIs(type(told), tuple)
        draft, place = told
        self.assertTrue(is_fair(problem, draft))
        self.assertGreaterEqual(len(draft), 2 * reach + 3)
        self.assertIsNone(draft[place])
        least = reach_at(problem, draft, place)
        self.assertTrue(least is None or least > reach, (least, reach))

    def test_small_problems(self):
        for problem in brute.random_problems(87, 200, 4) + brute.tiny_problems():
            for reach in range(6):
                self.check(problem, reach)

    def test_great_problems(self):
        for problem in GREAT:
            found = mending(problem)
            for reach in {0, 1, 7, 75, 149, 150} | ({found - 1, found} - {-1} if found is not None else set()):
                self.check(problem, reach)

    def test_only_the_ends_of_a_path_are_in_the_way(self):
        # In the middle all can be mended, but not at the first house; and not at the last one.
        pairs = [(0, 0), (0, 1), (1, 0), (1, 1)]
        for path in (PathProblem(2, pairs, [], [0]), PathProblem(2, pairs, [1], [])):
            self.assertIsNone(mending(path))
            for reach in (0, 1, 2, 150):
                self.check(path, reach)
        near = (
            (PathProblem(5, [(0, 3), (1, 1), (1, 2), (1, 4), (2, 1), (3, 4), (4, 2)], [1, 2, 3, 4], [2, 3]), 4),
            (PathProblem(5, [(0, 4), (1, 2), (2, 3), (3, 0), (4, 0), (4, 1)], [2, 3, 4], [3]), 10),
            (PathProblem(5, [(0, 2), (0, 4), (2, 0), (2, 2), (4, 1), (4, 2)], [0, 1, 2, 4], [1, 3]), 3))
        for path, expected in near:
            for problem in (path, backwards(path)):
                self.assertEqual(mending(problem), expected)
                for reach in range(expected + 2):
                    self.check(problem, reach)
        held = PathProblem(3, [(0, 1), (1, 1), (1, 2)], [0], [2])
        self.assertEqual(mending(held), 1)
        self.check(held, 0)
        self.check(held, 1)

    def test_wrong_values(self):
        for thing in STRANGE:
            self.assertIsNone(raised(BadProblem, mending, thing).part)
            self.assertIsNone(raised(BadProblem, stuck, thing, None).part)
        for reach in (-1, 151, True, False, None, 1.0, "1"):
            self.assertEqual(raised(BadNumber, stuck, brute.CHESS, reach).part, "reach")


if __name__ == "__main__":
    unittest.main()
