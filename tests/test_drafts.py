"""Promises 90 and 91: drafts and their fills."""

import random
import unittest

from roundwright.drafts import fills, free_labels, is_draft, is_fair, least_fill
from roundwright.errors import BadDraft, BadNumber, BadProblem
from roundwright.problems import PathProblem, RingProblem, how_many, some_labelling
from tests import brute
from tests.brute import STRANGE, raised


def slow_fills(problem, draft):
    return [line for line in brute.slow_labellings(problem, len(draft))
            if all(label is None or label == put for label, put in zip(draft, line))]


def ways_along(problem, stretch):
    """How many ways there are to put labels for the Nones of a stretch such that neighbours are pairs."""
    whole = list(range(problem.labels))
    return fills(PathProblem(problem.labels, problem.pairs, whole, whole), stretch)


class TestKinds(unittest.TestCase):
    def test_any_value_is_judged(self):
        for thing in ((None,), (0,), (1, None, 0), (None,) * 400, (1,) * 400):
            self.assertIs(is_draft(brute.CHESS, thing), True)
            self.assertIs(is_draft(brute.CHESS_PATH, thing), True)
        wrong = STRANGE + ((), [None], (2,), (-1,), (True,), (0.0,), ("0",), (None,) * 401, ((0,),), (None, []))
        for thing in wrong:
            if isinstance(thing, tuple) and len(thing) == 1 and thing[0] is None:
                continue
            self.assertIs(is_draft(brute.CHESS, thing), False, repr(thing)[:40])
            for call in (is_fair, fills, least_fill):
                raised(BadDraft, call, brute.CHESS, thing)
            raised(BadDraft, free_labels, brute.CHESS, thing, None)

    def test_wrong_problems_and_places(self):
        for thing in STRANGE:
            for call in (is_draft, is_fair, fills, least_fill):
                self.assertIsNone(raised(BadProblem, call, thing, None).part)
            self.assertIsNone(raised(BadProblem, free_labels, thing, None, None).part)
        for place in (-1, 2, True, None, 0.0, "0"):
            self.assertEqual(raised(BadNumber, free_labels, brute.CHESS, (None, 0), place).part, "place")

    def test_fair(self):
        for problem in brute.random_problems(31, 40, 3) + brute.tiny_problems():
            for size in range(1, 5):
                for draft in brute.all_drafts(problem, size):
                    self.assertIs(is_fair(problem, draft), brute.slow_fair(problem, draft))

    def test_fair_by_hand(self):
        self.assertIs(is_fair(brute.CHESS, (0,)), False)
        self.assertIs(is_fair(brute.CHESS, (None,)), True)
        self.assertIs(is_fair(brute.CHESS_PATH, (0,)), True)
        self.assertIs(is_fair(brute.CHESS, (0, None, 0)), False)
        self.assertIs(is_fair(brute.CHESS_PATH, (0, None, 0)), True)
        path = PathProblem(2, [(0, 1)], [0], [1])
        self.assertIs(is_fair(path, (1, None)), False)
        self.assertIs(is_fair(path, (None, 0)), False)
        self.assertIs(is_fair(path, (None, 1, None)), True)
        self.assertIs(is_fair(brute.LINE_12, tuple(range(12)) * 33), True)
        self.assertIs(is_fair(brute.LINE_12, tuple(range(12)) * 33 + (0,)), False)


class TestFills(unittest.TestCase):
    def test_against_all_labellings(self):
        rng = random.Random(32)
        for problem in brute.random_problems(33, 60, 3) + brute.tiny_problems():
            for size in range(1, 5):
                drafts = list(brute.all_drafts(problem, size))
                for draft in rng.sample(drafts, min(len(drafts), 20)):
                    lines = slow_fills(problem, draft)
                    self.assertEqual(fills(problem, draft), len(lines))
                    self.assertEqual(least_fill(problem, draft), lines[0] if lines else None)
                    for place in range(size):
                        expected = sorted({line[place] for line in lines})
                        self.assertEqual(free_labels(problem, draft, place), expected)

    def test_the_sum_over_the_labels_put_in(self):
        rng = random.Random(34)
        for problem in brute.random_problems(35, 30, 5):
            draft = tuple(rng.choice([None, None] + list(range(problem.labels))) for _ in range(9))
            if None in draft:
                place = draft.index(None)
                parts = [fills(problem, draft[:place] + (a,) + draft[place + 1:]) for a in range(problem.labels)]
                self.assertEqual(sum(parts), fills(problem, draft))

    def test_the_product_over_the_stretches(self):
        rng = random.Random(36)
        for problem in brute.random_rings(37, 30, 4):
            draft = [None] * 12
            places = sorted(rng.sample(range(12), rng.randint(1, 4)))
            for place in places:
                draft[place] = rng.randrange(problem.labels)
            product = 1
            for at, place in enumerate(places):
                last = places[at + 1] if at + 1 < len(places) else places[0] + 12
                product *= ways_along(problem, tuple(draft[spot % 12] for spot in range(place, last + 1)))
            self.assertEqual(fills(problem, tuple(draft)), product)

    def test_the_greatest_drafts(self):
        bare = (None,) * 400
        self.assertEqual(fills(brute.WHOLE_12, bare), 12 ** 400)
        self.assertEqual(fills(brute.COLOURS, bare), how_many(brute.COLOURS, 400))
        self.assertEqual(least_fill(brute.COLOURS, bare), some_labelling(brute.COLOURS, 400))
        self.assertEqual(free_labels(brute.WHOLE_12, bare, 399), list(range(12)))
        self.assertEqual(free_labels(brute.CHESS, (0,) + bare[1:], 399), [1])
        self.assertEqual(free_labels(brute.LINE_12, bare, 5), [])
        self.assertEqual(free_labels(brute.LINE_12, (3,) + (None,) * 395, 395), [2])
        whole = (0, 1) * 200
        self.assertEqual(least_fill(brute.CHESS, whole), whole)
        self.assertEqual(fills(brute.CHESS, whole), 1)
        self.assertIsNone(least_fill(brute.EMPTY_12, bare))

    def test_one_house(self):
        loop = RingProblem(2, [(0, 0), (0, 1)])
        self.assertEqual(fills(loop, (None,)), 1)
        self.assertEqual(free_labels(loop, (None,), 0), [0])
        self.assertEqual(free_labels(loop, (1,), 0), [])
        self.assertEqual(fills(PathProblem(2, [], [0, 1], [1]), (None,)), 1)

    def test_lists_are_new(self):
        free_labels(brute.CHESS, (None, None), 0).append(5)
        self.assertEqual(free_labels(brute.CHESS, (None, None), 0), [0, 1])


if __name__ == "__main__":
    unittest.main()
