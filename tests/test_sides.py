"""Promises 50 and 52: rings without a direction, and their sizes."""

import itertools
import random
import unittest

from roundwright.errors import BadLabelling, BadNumber, BadProblem
from roundwright.sides import (
    SideProblem, first_side_break, how_many_sides, is_right_sides, some_sides, turned)
from roundwright.sidesizes import is_side_size, side_sizes
from tests import brute
from tests.brute import STRANGE, raised


def ascending_pairs(labels):
    return [(a, b) for a in range(labels) for b in range(a, labels)]


def random_sides(rng, labels, share=None):
    share = share or rng.choice((0.15, 0.3, 0.6))
    pairs = ascending_pairs(labels)
    return SideProblem(labels, brute.some_of(rng, pairs, share), brute.some_of(rng, pairs, share))


def random_problems(seed, many, most):
    rng = random.Random(seed)
    return [random_sides(rng, rng.randint(1, most)) for _ in range(many)]


def slow_break(problem, line):
    for place, (one, other) in enumerate(line):
        if tuple(sorted((one, other))) not in problem.tops:
            return ("top", place)
        if tuple(sorted((other, line[(place + 1) % len(line)][0]))) not in problem.lines:
            return ("line", place)
    return None


def slow_sides(problem, size):
    houses = [(a, b) for a in range(problem.labels) for b in range(problem.labels)]
    return [line for line in itertools.product(houses, repeat=size) if slow_break(problem, line) is None]


def slow_sizes(problem, most):
    """Whether there is a right side labelling, for each size from 1 to most; houses are put one by one."""
    houses = [(a, b) for a in range(problem.labels) for b in range(problem.labels)
              if tuple(sorted((a, b))) in problem.tops]
    steps = {one: [other for other in houses if tuple(sorted((one[1], other[0]))) in problem.lines] for one in houses}
    found = [False] * (most + 1)
    for begin in houses:
        held = {begin}
        for size in range(1, most + 1):
            held = {other for one in held for other in steps[one]}
            found[size] = found[size] or begin in held
    return found


WHOLE_6 = SideProblem(6, ascending_pairs(6), ascending_pairs(6))
EMPTY_6 = SideProblem(6, [], [])
TURN = SideProblem(2, [(0, 1)], [(0, 1)])


class TestMaking(unittest.TestCase):
    def test_attributes(self):
        tops, lines = [(1, 1), (0, 1)], ((0, 0),)
        problem = SideProblem(lines=lines, tops=tops, labels=2)
        self.assertEqual((problem.labels, problem.tops, problem.lines), (2, ((0, 1), (1, 1)), ((0, 0),)))
        tops.clear()
        self.assertEqual(problem, SideProblem(2, [(0, 1), (1, 1)], [(0, 0)]))
        for parts in ((3, [(0, 1), (1, 1)], [(0, 0)]), (2, [(1, 1)], [(0, 0)]), (2, [(0, 1), (1, 1)], [])):
            self.assertNotEqual(problem, SideProblem(*parts))
        self.assertNotEqual(problem, None)
        self.assertNotEqual(problem, (2, ((0, 1), (1, 1)), ((0, 0),)))

    def test_first_wrong_part_is_told(self):
        for labels in (0, 7, True, None, 2.0, "2", -1):
            self.assertEqual(raised(BadProblem, SideProblem, labels, None, None).part, "labels")
        wrong = (None, "", {}, [(1, 0)], [(0, 2)], [(-1, 0)], [(0, 0), (0, 0)], [[0, 1]], [(0,)], [(0, 1, 1)],
                 [(False, 1)], [(0, True)], [(0, 1.0)], [0], {(0, 1)})
        for pairs in wrong:
            self.assertEqual(raised(BadProblem, SideProblem, 2, pairs, pairs).part, "tops", pairs)
            self.assertEqual(raised(BadProblem, SideProblem, 2, [], pairs).part, "lines", pairs)


class TestSides(unittest.TestCase):
    def test_any_value_is_judged(self):
        for thing in STRANGE + ((), [(0, 1)], ((0,),), ([0, 1],), ((0, 1, 0),), ((0, 2),), ((False, True),),
                                ((0, 1.0),), ((0, 1),) * 401, (0, 1), ((0, -1),)):
            self.assertIs(is_right_sides(TURN, thing), False, repr(thing)[:40])
            raised(BadLabelling, first_side_break, TURN, thing)
        self.assertIs(is_right_sides(TURN, ((0, 1),) * 400), True)
        self.assertIs(is_right_sides(TURN, ((1, 0),)), True)
        for thing in STRANGE:
            self.assertIsNone(raised(BadProblem, is_right_sides, thing, None).part)
            self.assertIsNone(raised(BadProblem, first_side_break, thing, None).part)
            self.assertIsNone(raised(BadProblem, some_sides, thing, None).part)
            self.assertIsNone(raised(BadProblem, how_many_sides, thing, None).part)
            raised(BadLabelling, turned, thing)
        for size in (0, 401, True, None, 1.0):
            self.assertEqual(raised(BadNumber, some_sides, TURN, size).part, "size")
            self.assertEqual(raised(BadNumber, how_many_sides, TURN, size).part, "size")

    def test_first_break(self):
        problem = SideProblem(3, [(0, 1), (1, 2)], [(1, 1), (0, 2)])
        self.assertEqual(first_side_break(problem, ((0, 0), (0, 0))), ("top", 0))
        self.assertEqual(first_side_break(problem, ((0, 1), (2, 1))), ("line", 0))
        self.assertEqual(first_side_break(problem, ((0, 1), (1, 1))), ("top", 1))
        self.assertEqual(first_side_break(problem, ((0, 1), (1, 0))), ("line", 1))
        self.assertIsNone(first_side_break(problem, ((0, 1), (1, 2))))
        self.assertEqual(first_side_break(problem, ((0, 1),)), ("line", 0))

    def test_against_all_side_labellings(self):
        for problem in random_problems(111, 60, 3):
            for size in range(1, 4):
                lines = slow_sides(problem, size)
                self.assertEqual(how_many_sides(problem, size), len(lines))
                self.assertEqual(some_sides(problem, size), lines[0] if lines else None)
                houses = [(a, b) for a in range(problem.labels) for b in range(problem.labels)]
                for line in itertools.islice(itertools.product(houses, repeat=size), 0, 200):
                    expected = slow_break(problem, line)
                    self.assertEqual(first_side_break(problem, line), expected)
                    self.assertIs(is_right_sides(problem, line), expected is None)
                    self.assertIs(is_right_sides(problem, turned(line)), expected is None)

    def test_turned(self):
        self.assertEqual(turned(((0, 1), (2, 3), (4, 5))), ((5, 4), (3, 2), (1, 0)))
        self.assertEqual(turned(((0, 5),)), ((5, 0),))
        line = tuple((at % 6, at % 5) for at in range(400))
        self.assertEqual(turned(turned(line)), line)
        for thing in (((0, 6),), (), [(0, 1)], ((0, 1),) * 401, ((True, 0),), ((-1, 0),), ((0, 1), [0, 1])):
            raised(BadLabelling, turned, thing)

    def test_the_greatest_sizes(self):
        self.assertEqual(how_many_sides(WHOLE_6, 400), 36 ** 400)
        self.assertEqual(some_sides(WHOLE_6, 400), ((0, 0),) * 400)
        self.assertEqual(how_many_sides(EMPTY_6, 400), 0)
        self.assertIsNone(some_sides(EMPTY_6, 400))
        self.assertEqual(some_sides(TURN, 399), ((0, 1),) * 399)
        self.assertEqual(how_many_sides(TURN, 399), 2)
        cycle = SideProblem(6, [(a, a) for a in range(6)], [(a, a + 1) for a in range(5)])
        self.assertIsNone(some_sides(cycle, 399))
        self.assertTrue(is_right_sides(cycle, some_sides(cycle, 400)))


class TestSizes(unittest.TestCase):
    def test_against_all_sizes(self):
        seen = set()
        for problem in random_problems(112, 250, 6) + [WHOLE_6, EMPTY_6, TURN]:
            told = slow_sizes(problem, 120)
            best = None
            for period in range(1, 13):
                first = next((n for n in range(1, 90) if all(
                    told[m] == told[m + period] for m in range(n, 121 - period))), None)
                if first is not None:
                    best = (first, period, tuple(n for n in range(1, first + period) if told[n]))
                    break
            self.assertEqual(side_sizes(problem), best)
            seen.add(best[1])
            for size in range(1, 121):
                self.assertIs(is_side_size(problem, size), told[size])
        self.assertLessEqual({1, 2}, seen)

    def test_longer_periods(self):
        # Each house leads on to the next one of three, whichever way it is told: three divides the size.
        three = SideProblem(6, [(0, 1), (2, 3), (4, 5)], [(1, 2), (3, 4), (0, 5)])
        self.assertEqual(side_sizes(three), (1, 3, (3,)))
        for size in (10 ** 9, 10 ** 9 - 1, 3, 399, 400):
            self.assertIs(is_side_size(three, size), size % 3 == 0)
        self.assertTrue(is_right_sides(three, some_sides(three, 399)))
        self.assertIsNone(some_sides(three, 400))

    def test_all_or_none(self):
        self.assertEqual(side_sizes(WHOLE_6), (1, 1, (1,)))
        self.assertEqual(side_sizes(EMPTY_6), (1, 1, ()))
        self.assertIs(is_side_size(WHOLE_6, 10 ** 9), True)
        self.assertIs(is_side_size(EMPTY_6, 10 ** 9), False)

    def test_labellings_and_sizes(self):
        for problem in random_problems(113, 60, 6):
            for size in (1, 2, 3, 17, 60, 97):
                self.assertIs(is_side_size(problem, size), some_sides(problem, size) is not None)
                self.assertEqual(how_many_sides(problem, size) > 0, is_side_size(problem, size))

    def test_wrong_values(self):
        for thing in STRANGE:
            self.assertIsNone(raised(BadProblem, side_sizes, thing).part)
            self.assertIsNone(raised(BadProblem, is_side_size, thing, None).part)
        for size in (0, -1, 10 ** 9 + 1, True, None, 1.0, "1"):
            self.assertEqual(raised(BadNumber, is_side_size, TURN, size).part, "size")


if __name__ == "__main__":
    unittest.main()
