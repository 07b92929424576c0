"""Promises 20, 21, 24: useful labels, parts, rounds, classes."""

import itertools
import math
import unittest

from roundwright.classes import class_of
from roundwright.closedwalks import bends, bends_from, round_at, shortest_round
from roundwright.errors import BadNumber, BadProblem
from roundwright.parts import round_period, strong_parts, useful
from roundwright.problems import PathProblem, RingProblem, some_labelling
from tests import brute
from tests.brute import STRANGE, raised

PROBLEMS = brute.random_problems(11, 120, 4) + brute.tiny_problems()
GREAT = brute.random_problems(12, 30, 12) + [brute.LINE_12, brute.WIELANDT_12, brute.WHOLE_12, brute.EMPTY_12]


def slow_useful(problem):
    # A label that is useful stands in a right labelling of few houses: no label is needed twice on the way.
    found = set()
    for size in range(1, 2 * problem.labels + 1):
        for line in brute.slow_labellings(problem, size):
            found.update(line)
    return tuple(sorted(found))


def round_lengths(problem, label, most):
    held = brute.walks_between(problem.pairs, problem.labels, 0)
    found = []
    for size in range(1, most + 1):
        held = {(one, last) for one, other in held for first, last in problem.pairs if other == first}
        if (label, label) in held:
            found.append(size)
    return found


def slow_rounds(problem, label, size):
    ring = RingProblem(problem.labels, problem.pairs)
    return [line for line in brute.slow_labellings(ring, size) if line[0] == label]


class TestParts(unittest.TestCase):
    def test_useful_against_all_labellings(self):
        for problem in brute.random_problems(13, 120, 3) + brute.tiny_problems():
            self.assertEqual(useful(problem), slow_useful(problem))

    def test_strong_parts(self):
        for problem in PROBLEMS + GREAT:
            labels = useful(problem)
            reach = set()
            for steps in range(1, problem.labels + 1):
                reach |= brute.walks_between(problem.pairs, problem.labels, steps)
            expected = set()
            for label in labels:
                part = tuple(b for b in labels if (label, b) in reach and (b, label) in reach)
                if part:
                    expected.add(part)
            self.assertEqual(strong_parts(problem), sorted(expected))

    def test_parts_by_hand(self):
        self.assertEqual(useful(brute.TWOS_OR_THREES), (0, 1, 2, 3, 4))
        self.assertEqual(strong_parts(brute.TWOS_OR_THREES), [(0, 1), (2, 3, 4)])
        path = PathProblem(4, [(0, 1), (1, 1), (1, 2), (3, 3)], [0], [2])
        self.assertEqual(useful(path), (0, 1, 2))
        self.assertEqual(strong_parts(path), [(1,)])
        self.assertEqual(round_period(path, 3), 1)
        self.assertEqual(useful(PathProblem(2, [], [0, 1], [1])), (1,))
        self.assertEqual(useful(brute.EMPTY_12), ())
        self.assertEqual(strong_parts(brute.EMPTY_12), [])

    def test_periods(self):
        for problem in PROBLEMS + GREAT:
            for label in range(problem.labels):
                expected = 0
                for size in round_lengths(problem, label, 60):
                    expected = math.gcd(expected, size)
                self.assertEqual(round_period(problem, label), expected)

    def test_lists_are_new(self):
        first = strong_parts(brute.COLOURS)
        first.append(7)
        self.assertEqual(strong_parts(brute.COLOURS), [(0, 1, 2)])


class TestRounds(unittest.TestCase):
    def test_rounds_against_all(self):
        for problem in PROBLEMS:
            for label in range(problem.labels):
                rounds = [slow_rounds(problem, label, size) for size in range(1, 6)]
                for size in range(1, 6):
                    expected = rounds[size - 1][0] if rounds[size - 1] else None
                    self.assertEqual(round_at(problem, label, size), expected)
                shortest = [group[0] for group in rounds if group]
                self.assertEqual(shortest_round(problem, label), shortest[0] if shortest else None)

    def test_bends(self):
        for problem in PROBLEMS + GREAT:
            for label in range(problem.labels):
                lengths = round_lengths(problem, label, 140)
                missing = [size for size in range(1, 141) if size not in lengths]
                expected = None
                if 140 not in missing and 139 not in missing:
                    expected = missing[-1] + 1 if missing else 1
                self.assertEqual(bends_from(problem, label), expected)
                self.assertIs(bends(problem, label), expected is not None)
                self.assertEqual(bends(problem, label), round_period(problem, label) == 1)

    def test_the_greatest_bend(self):
        found = [bends_from(brute.WIELANDT_12, label) for label in range(12)]
        self.assertTrue(all(bends(brute.WIELANDT_12, label) for label in range(12)))
        self.assertEqual(max(found), 122)
        self.assertEqual(len(round_at(brute.WIELANDT_12, 3, 400)), 400)
        self.assertIsNone(round_at(brute.LINE_12, 0, 400))
        self.assertEqual(round_at(brute.LINE_12, 11, 12), (11,) + tuple(range(11)))
        self.assertEqual(shortest_round(brute.LINE_12, 1), tuple(range(1, 12)) + (0,))
        self.assertIsNone(bends_from(brute.LINE_12, 0))

    def test_rounds_of_labels_of_no_use(self):
        path = PathProblem(3, [(1, 2), (2, 1), (0, 0)], [], [])
        self.assertEqual(round_at(path, 2, 4), (2, 1, 2, 1))
        self.assertEqual(round_period(path, 1), 2)
        self.assertEqual(bends_from(path, 0), 1)
        self.assertEqual(shortest_round(path, 0), (0,))
        self.assertEqual(class_of(path), "never")

    def test_by_hand(self):
        self.assertEqual(bends_from(brute.TWO_AND_THREE, 0), 2)
        self.assertEqual(round_at(brute.TWO_AND_THREE, 0, 5), (0, 1, 0, 1, 2))
        self.assertEqual(class_of(brute.TWO_AND_THREE), "bending")
        self.assertEqual(class_of(brute.TWOS_OR_THREES), "stiff")
        pairs = list(brute.TWOS_OR_THREES.pairs) + [(1, 2)]
        path = PathProblem(5, pairs, (0,), (4,))
        self.assertEqual([size for size in range(1, 20) if some_labelling(path, size)], [5] + list(range(7, 20)))
        self.assertEqual(class_of(path), "stiff")

    def test_wrong_values(self):
        for call in (useful, strong_parts, class_of):
            for thing in STRANGE:
                self.assertIsNone(raised(BadProblem, call, thing).part)
        for call in (round_period, shortest_round, bends, bends_from):
            for thing in STRANGE:
                self.assertIsNone(raised(BadProblem, call, thing, None).part)
            for label in (-1, 3, True, None, 1.0, "1"):
                self.assertEqual(raised(BadNumber, call, brute.COLOURS, label).part, "label")
        self.assertIsNone(raised(BadProblem, round_at, None, -1, 0).part)
        self.assertEqual(raised(BadNumber, round_at, brute.COLOURS, 3, 0).part, "label")
        for size in (0, 401, False, None, 2.0):
            self.assertEqual(raised(BadNumber, round_at, brute.COLOURS, 0, size).part, "size")


class TestClasses(unittest.TestCase):
    def test_classes_are_what_the_words_say(self):
        seen = set()
        for problem in PROBLEMS + GREAT:
            labels = useful(problem)
            if any((label, label) in problem.pairs for label in labels):
                expected = "loop"
            elif any(bends(problem, label) for label in labels):
                expected = "bending"
            else:
                expected = "stiff" if strong_parts(problem) else "never"
            self.assertEqual(class_of(problem), expected)
            seen.add((expected, brute.is_ring(problem)))
        self.assertEqual(len(seen), 8)

    def test_classes_and_sizes(self):
        for problem in PROBLEMS:
            sizes = [size for size in range(1, 60) if some_labelling(problem, size) is not None]
            kind = class_of(problem)
            self.assertEqual(kind == "never", not [size for size in sizes if size > 30])
            if kind == "never":
                self.assertTrue(all(size <= problem.labels for size in sizes))
            if brute.is_ring(problem):
                always = all(size in sizes for size in range(30, 60))
                self.assertEqual(kind in ("bending", "loop"), always)
                self.assertTrue(kind != "never" or sizes == [])

    def test_all_problems_of_two_labels(self):
        for pairs in itertools.chain.from_iterable(
                itertools.combinations(brute.all_pairs(2), many) for many in range(5)):
            problem = RingProblem(2, pairs)
            kind = "loop" if (0, 0) in pairs or (1, 1) in pairs else "never"
            if kind == "never" and len(pairs) == 2:
                kind = "stiff"
            self.assertEqual(class_of(problem), kind)


if __name__ == "__main__":
    unittest.main()
