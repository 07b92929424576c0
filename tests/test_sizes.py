"""Promises 22, 23 and 28, and what 21, 24, 25 and 26 say of sizes."""

import itertools
import math
import random
import unittest

from roundwright.classes import class_of
from roundwright.classpapers import is_paper, paper_of
from roundwright.closedwalks import bends, bends_from, round_at
from roundwright.errors import BadNumber, BadProblem, BadSizes, TooMany
from roundwright.joins import backwards, crossed, joined
from roundwright.parts import round_period
from roundwright.problems import PathProblem, RingProblem, some_labelling
from roundwright.sizes import (
    Sizes, both_sizes, either_sizes, has_size, how_many_sizes, least_sizes, next_size, unlike_size)
from roundwright.sizing import flower, problem_of_sizes, round_sizes, sizes_of
from tests import brute
from tests.brute import STRANGE, raised

ORDER = ("never", "stiff", "bending", "loop")


def slow_has(sizes, size):
    while size > sizes.begin + sizes.period:
        size -= sizes.period
    return sizes.told[size - 1]


def listed(sizes, most):
    return [size for size in range(1, most + 1) if slow_has(sizes, size)]


def random_sizes(rng, most=5):
    begin, period = rng.randint(0, most), rng.randint(1, most)
    return Sizes(begin, period, [rng.random() < 0.5 for _ in range(begin + period)])


def many_sizes(seed, many, most=5):
    rng = random.Random(seed)
    return [random_sizes(rng, most) for _ in range(many)]


def all_sizes(most):
    """All Sizes whose begin and period are at most a number."""
    return [Sizes(begin, period, told) for begin in range(most + 1) for period in range(1, most + 1)
            for told in itertools.product((False, True), repeat=begin + period)]


class TestSizes(unittest.TestCase):
    def test_attributes_and_equality(self):
        told = [False, True]
        sizes = Sizes(begin=1, period=1, told=told)
        told[0] = True
        self.assertEqual((sizes.begin, sizes.period, sizes.told), (1, 1, (False, True)))
        self.assertEqual(sizes, Sizes(1, 1, (False, True)))
        for other in (Sizes(1, 1, (True, True)), Sizes(0, 2, (False, True)), Sizes(0, 1, [True]), None, (1, 1), "a"):
            self.assertNotEqual(sizes, other)

    def test_wrong_parts(self):
        for begin in (-1, 201, True, None, 1.0, "1", [1]):
            self.assertEqual(raised(BadSizes, Sizes, begin, 0, None).part, "begin")
        for period in (0, 201, True, None, 1.0, "1"):
            self.assertEqual(raised(BadSizes, Sizes, 0, period, None).part, "period")
        for told in ([], [True], [True] * 4, (0, 1, 1), [True, True, 1], [True, None, False], None, "abc", {1, 2, 3}):
            self.assertEqual(raised(BadSizes, Sizes, 1, 2, told).part, "told")
        self.assertEqual(Sizes(200, 200, [False] * 400).begin, 200)
        self.assertEqual(Sizes(0, 1, [False]).told, (False,))

    def test_which_sizes_are_in_it(self):
        for sizes in many_sizes(301, 60):
            for size in range(1, 40):
                self.assertIs(has_size(sizes, size), slow_has(sizes, size))
                later = [n for n in range(size, size + 20) if slow_has(sizes, n)]
                self.assertEqual(next_size(sizes, size), later[0] if later else None)
            endless = any(sizes.told[sizes.begin:])
            self.assertEqual(how_many_sizes(sizes), None if endless else len(listed(sizes, 40)))

    def test_great_sizes(self):
        odd = Sizes(0, 2, (True, False))
        self.assertIs(has_size(odd, 10 ** 30 + 1), True)
        self.assertIs(has_size(odd, 10 ** 30), False)
        self.assertEqual(next_size(odd, 10 ** 30), 10 ** 30 + 1)
        late = Sizes(200, 200, [False] * 399 + [True])
        self.assertEqual(next_size(late, 1), 400)
        self.assertEqual(next_size(late, 401), 600)
        self.assertIsNone(next_size(Sizes(200, 200, [True] * 200 + [False] * 200), 201))
        self.assertEqual(next_size(Sizes(200, 200, [True] * 200 + [False] * 200), 200), 200)
        self.assertIsNone(next_size(Sizes(0, 1, [False]), 10 ** 30))
        self.assertEqual(how_many_sizes(Sizes(200, 200, [True] * 200 + [False] * 200)), 200)

    def test_least_is_least(self):
        every = all_sizes(3)
        for sizes in every:
            least = least_sizes(sizes)
            self.assertEqual(listed(least, 20), listed(sizes, 20))
            same = [other for other in every if listed(other, 20) == listed(sizes, 20)]
            self.assertEqual(least.period, min(other.period for other in same))
            self.assertEqual(least.begin, min(other.begin for other in same))
            for other in same:
                self.assertEqual(least_sizes(other), least)
        self.assertEqual(least_sizes(Sizes(200, 200, [True] * 400)), Sizes(0, 1, [True]))
        self.assertEqual(least_sizes(Sizes(200, 200, [True, False] * 200)), Sizes(0, 2, [True, False]))
        late = Sizes(200, 1, [False] * 199 + [True, False])
        self.assertEqual(least_sizes(late), late)
        whole = Sizes(0, 200, [True] + [False] * 199)
        self.assertEqual(least_sizes(whole), whole)

    def test_two_of_them(self):
        group = many_sizes(302, 40, 6)
        for one in group:
            for other in group:
                ones, others = set(listed(one, 80)), set(listed(other, 80))
                self.assertEqual(set(listed(both_sizes(one, other), 80)), ones & others)
                self.assertEqual(set(listed(either_sizes(one, other), 80)), ones | others)
                self.assertEqual(both_sizes(one, other), least_sizes(both_sizes(one, other)))
                self.assertEqual(either_sizes(one, other), least_sizes(either_sizes(one, other)))
                self.assertEqual(unlike_size(one, other), min(ones ^ others, default=None))
                self.assertIs(least_sizes(one) == least_sizes(other), unlike_size(one, other) is None)

    def test_too_many(self):
        fours = Sizes(0, 8, [False] * 7 + [True])
        self.assertEqual(both_sizes(fours, Sizes(0, 25, [False] * 24 + [True])).period, 200)
        three, five = Sizes(0, 3, [False, False, True]), Sizes(0, 67, [False] * 66 + [True])
        for join in (both_sizes, either_sizes):
            self.assertEqual(raised(TooMany, join, three, five).most, 200)
        self.assertEqual(unlike_size(three, five), 3)
        none = Sizes(0, 199, [False] * 198 + [True])
        self.assertEqual(both_sizes(none, Sizes(0, 1, [False])), Sizes(0, 1, [False]))
        self.assertEqual(unlike_size(Sizes(0, 199, [True] * 198 + [False]), Sizes(200, 200, [True] * 400)), 199)
        late = Sizes(0, 200, [True] + [False] * 199)
        self.assertEqual(unlike_size(late, Sizes(0, 199, [True] + [False] * 198)), 200)
        self.assertEqual(both_sizes(Sizes(200, 2, [True] * 201 + [False]), Sizes(0, 1, [True])).begin, 200)

    def test_wrong_values(self):
        good = Sizes(0, 1, [True])
        for thing in STRANGE + ((0, 1, (True,)),):
            for call in (how_many_sizes, least_sizes, problem_of_sizes):
                self.assertIsNone(raised(BadSizes, call, thing).part)
            for call in (has_size, next_size):
                self.assertIsNone(raised(BadSizes, call, thing, None).part)
            for call in (both_sizes, either_sizes, unlike_size):
                self.assertIsNone(raised(BadSizes, call, thing, good).part)
                self.assertIsNone(raised(BadSizes, call, good, other=thing).part)
        for size in (0, -1, True, None, 1.0, "1"):
            for call in (has_size, next_size):
                self.assertEqual(raised(BadNumber, call, sizes=good, size=size).part, "size")


LONG = PathProblem(12, [(at, at + 1) for at in range(11)] + [(11, 0), (11, 1)], [0], [11])
#: Rings of labels of unlike lengths, 3, 4 and 5: the sizes repeat with period 60.
THREE_RINGS = RingProblem(12, [(0, 1), (1, 2), (2, 0), (3, 4), (4, 5), (5, 6), (6, 3), (7, 8), (8, 9), (9, 10),
                               (10, 11), (11, 7)])


class TestSizing(unittest.TestCase):
    def test_by_hand(self):
        self.assertEqual(sizes_of(brute.TWO_AND_THREE), Sizes(1, 1, (False, True)))
        self.assertEqual(class_of(brute.TWO_AND_THREE), "bending")
        self.assertEqual(bends_from(brute.TWO_AND_THREE, 0), 2)
        twos_or_threes = sizes_of(brute.TWOS_OR_THREES)
        self.assertEqual(twos_or_threes, Sizes(0, 6, (False, True, True, True, False, True)))
        self.assertEqual(class_of(brute.TWOS_OR_THREES), "stiff")
        path = PathProblem(5, [(0, 1), (1, 0), (2, 3), (3, 4), (4, 2), (1, 2)], (0,), (4,))
        self.assertEqual(class_of(path), "stiff")
        self.assertEqual(sizes_of(path), Sizes(6, 1, (False, False, False, False, True, False, True)))

    def test_against_labellings(self):
        for problem in brute.random_problems(303, 60, 5) + brute.random_problems(304, 20, 12) + [LONG, THREE_RINGS]:
            sizes = sizes_of(problem)
            self.assertEqual(sizes, least_sizes(sizes))
            self.assertLessEqual(sizes.begin, 144)
            self.assertLessEqual(sizes.period, 60)
            for size in list(range(1, 24)) + [60, 97, 120, 121, 122, 123, 144, 145, 240, 241, 399, 400]:
                self.assertIs(has_size(sizes, size), some_labelling(problem, size) is not None)

    def test_every_size_at_the_limits(self):
        for problem in (brute.WIELANDT_12, THREE_RINGS, LONG, brute.LINE_12, flower([5, 8])):
            sizes = sizes_of(problem)
            for size in range(1, 401):
                self.assertIs(has_size(sizes, size), some_labelling(problem, size) is not None, size)
        self.assertEqual(sizes_of(THREE_RINGS).period, 60)
        self.assertEqual(sizes_of(brute.WIELANDT_12).period, 1)
        self.assertGreaterEqual(sizes_of(brute.WIELANDT_12).begin, 100)
        self.assertIs(has_size(sizes_of(THREE_RINGS), 6 * 10 ** 30), True)
        self.assertIs(has_size(sizes_of(THREE_RINGS), 60 * 10 ** 30 + 1), False)

    def test_round_sizes(self):
        for problem in brute.random_problems(305, 50, 4) + [THREE_RINGS, brute.WIELANDT_12]:
            for label in range(problem.labels):
                sizes = round_sizes(problem, label)
                self.assertEqual(sizes, least_sizes(sizes))
                for size in list(range(1, 30)) + [121, 122, 399, 400]:
                    self.assertIs(has_size(sizes, size), round_at(problem, label, size) is not None)

    def test_bends_against_rounds(self):
        # Promise 21: a label bends exactly if its period is 1, and then there are rounds of all sizes from 122 on.
        for problem in brute.random_problems(306, 60, 6) + brute.random_problems(307, 10, 12) + [brute.WIELANDT_12]:
            for label in range(problem.labels):
                told = [round_at(problem, label, size) is not None for size in range(1, 160)]
                self.assertIs(bends(problem, label), all(told[121:]))
                self.assertIs(bends(problem, label), round_period(problem, label) == 1)
                if bends(problem, label):
                    least = bends_from(problem, label)
                    self.assertLessEqual(least, 122)
                    self.assertTrue(all(told[least - 1:]))
                    self.assertTrue(least == 1 or not told[least - 2])
                    self.assertIn(least, (round_sizes(problem, label).begin + 1, 1))
                else:
                    self.assertIsNone(bends_from(problem, label))

    def test_classes_and_sizes(self):
        for problem in brute.random_problems(308, 150, 5) + brute.tiny_problems():
            sizes = sizes_of(problem)
            many = how_many_sizes(sizes)
            self.assertIs(class_of(problem) == "never", many is not None)
            if many is not None:
                self.assertTrue(all(size <= problem.labels for size in listed(sizes, 200)))
                self.assertTrue(many == 0 or isinstance(problem, PathProblem))
            if isinstance(problem, RingProblem):
                self.assertIs(class_of(problem) in ("bending", "loop"), sizes.told[sizes.begin:] == (True,))
            self.assertEqual(paper_of(problem)[0], class_of(problem))
            self.assertIs(is_paper(problem, paper_of(problem)), True)

    def test_joins_and_sizes(self):
        rng = random.Random(309)
        for _ in range(80):
            make = rng.choice((brute.random_ring, brute.random_path))
            one, other = make(rng, rng.randint(1, 3)), make(rng, rng.randint(1, 4))
            self.assertEqual(sizes_of(joined(one, other)), either_sizes(sizes_of(one), sizes_of(other)))
            self.assertEqual(sizes_of(crossed(one, other)), both_sizes(sizes_of(one), sizes_of(other)))
            self.assertEqual(sizes_of(backwards(one)), sizes_of(one))
            ranks = [ORDER.index(class_of(one)), ORDER.index(class_of(other))]
            self.assertEqual(class_of(joined(one, other)), ORDER[max(ranks)])
            self.assertEqual(class_of(backwards(one)), class_of(one))
            found = class_of(crossed(one, other))
            if isinstance(one, PathProblem) and ranks == [1, 1]:
                self.assertIn(found, ("stiff", "never"))
            else:
                self.assertEqual(found, ORDER[min(ranks)])

    def test_problem_of_sizes(self):
        for sizes in all_sizes(3) + many_sizes(310, 60, 6) + [Sizes(11, 1, [True] * 11 + [False]),
                                                            Sizes(0, 12, [False] * 11 + [True])]:
            least = least_sizes(sizes)
            problem = problem_of_sizes(sizes)
            self.assertEqual(sizes_of(problem), least)
            labels = least.begin + least.period
            line = [(at, at + 1) for at in range(labels - 1)] + [(labels - 1, least.begin)]
            ends = [at for at in range(labels) if least.told[at]]
            self.assertEqual(problem, PathProblem(labels, line, [0], ends))
        self.assertEqual(problem_of_sizes(Sizes(0, 1, [False])), PathProblem(1, [(0, 0)], [0], []))
        self.assertEqual(problem_of_sizes(Sizes(200, 200, [True] * 400)), PathProblem(1, [(0, 0)], [0], [0]))
        for sizes in (Sizes(0, 13, [True] + [False] * 12), Sizes(12, 1, [False] * 11 + [True, False])):
            self.assertEqual(raised(TooMany, problem_of_sizes, sizes).most, 12)

    def test_flower(self):
        self.assertEqual(flower([1]), RingProblem(1, [(0, 0)]))
        self.assertEqual(flower((3, 1, 2)), RingProblem(4, [(0, 1), (1, 2), (2, 0), (0, 0), (0, 3), (3, 0)]))
        self.assertEqual(flower(lengths=[2, 3]), RingProblem(4, [(0, 1), (1, 0), (0, 2), (2, 3), (3, 0)]))
        rng = random.Random(311)
        for _ in range(60):
            lengths = rng.sample(range(1, 13), rng.randint(1, 3))
            if 1 + sum(lengths) - len(lengths) > 12:
                self.assertEqual(raised(TooMany, flower, lengths).most, 12)
                continue
            sums = {0}
            for size in range(1, 150):
                if any(size - length in sums for length in lengths):
                    sums.add(size)
            problem = flower(lengths)
            self.assertEqual(listed(sizes_of(problem), 149), sorted(sums - {0}))
            self.assertEqual(round_sizes(problem, 0), sizes_of(problem))
            self.assertIs(bends(problem, 0), math.gcd(*lengths) == 1)
        self.assertEqual(flower([12]), brute.LINE_12)
        self.assertEqual(flower([6, 7]).labels, 12)
        self.assertEqual(raised(TooMany, flower, [7, 8]).most, 12)
        self.assertEqual(raised(TooMany, flower, list(range(1, 13))).most, 12)

    def test_wrong_values(self):
        for lengths in ([], [0], [13], [2, 2], [True], [1.0], None, "ab", {1, 2}, 3, [[1]], list(range(1, 14))):
            self.assertEqual(raised(BadNumber, flower, lengths).part, "lengths")
        for thing in STRANGE:
            self.assertIsNone(raised(BadProblem, sizes_of, thing).part)
            self.assertIsNone(raised(BadProblem, round_sizes, thing, None).part)
        for label in (-1, 3, True, None, 0.0):
            self.assertEqual(raised(BadNumber, round_sizes, brute.COLOURS, label).part, "label")


if __name__ == "__main__":
    unittest.main()
