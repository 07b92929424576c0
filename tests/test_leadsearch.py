"""Promise 58: the search for leads."""

import itertools
import random
import unittest

from roundwright.errors import BadNumber, BadProblem, TooMany
from roundwright.leads import Lead, is_right_lead
from roundwright.leadsearch import fewest_rounds_lead, least_lead
from roundwright.pieces import pieces
from roundwright.problems import PathProblem, RingProblem
from tests import brute
from tests.brute import STRANGE, raised


def whole(labels):
    return RingProblem(labels, [(a, b) for a, b in brute.all_pairs(labels) if a != b])


def circle(labels, steps):
    return RingProblem(labels, [(a, (a + step) % labels) for a in range(labels) for step in steps])


def slow_least(first, second, rounds):
    """The least right Lead, all answers tried one by one; None without one."""
    windows = pieces(first, 2 * rounds + 1)
    longer = pieces(first, 2 * rounds + 2)
    for answers in itertools.product(range(second.labels), repeat=len(windows)):
        told = dict(zip(windows, answers))
        if all((told[piece[:-1]], told[piece[1:]]) in second.pairs for piece in longer):
            return Lead(first, second, rounds, told)
    return None


class TestLeastLead(unittest.TestCase):
    def test_against_all_answers(self):
        rng = random.Random(501)
        found, none = 0, 0
        for _ in range(300):
            first = RingProblem(rng.randint(1, 3), [])
            first = RingProblem(first.labels, brute.some_of(rng, brute.all_pairs(first.labels), 0.6))
            second = RingProblem(rng.randint(1, 3), [])
            second = RingProblem(second.labels, brute.some_of(rng, brute.all_pairs(second.labels), 0.5))
            for rounds in (0, 1, 2):
                windows = pieces(first, 2 * rounds + 1)
                if len(windows) > 60 or second.labels ** len(windows) > 3000:
                    continue
                expected = slow_least(first, second, rounds)
                lead = least_lead(first, second, rounds)
                self.assertEqual(lead, expected)
                found, none = found + (lead is not None), none + (lead is None)
        self.assertGreater(found, 100)
        self.assertGreater(none, 100)

    def test_least_answers_of_greater_ones(self):
        # Of greater searches: the answers are right, and no lesser one goes with those ahead of it.
        rng = random.Random(502)
        for _ in range(40):
            first = RingProblem(4, brute.some_of(rng, brute.all_pairs(4), 0.4))
            second = RingProblem(5, brute.some_of(rng, brute.all_pairs(5), 0.45))
            if len(pieces(first, 3)) > 60:
                continue
            lead = least_lead(first, second, 1)
            if lead is None:
                continue
            self.assertIs(is_right_lead(lead), True)
            windows = pieces(first, 3)
            for at, window in enumerate(windows[:4]):
                for answer in range(lead.answers[window]):
                    fixed = [lead.answers[other] for other in windows[:at]] + [answer]
                    self.assertFalse(self.can_go_on(first, second, windows, fixed))

    def can_go_on(self, first, second, windows, fixed):
        pairs = [(piece[:-1], piece[1:]) for piece in pieces(first, 4)]

        def tried(told):
            for one, other in pairs:
                if one in told and other in told and (told[one], told[other]) not in second.pairs:
                    return False
            if len(told) == len(windows):
                return True
            window = windows[len(told)]
            return any(tried({**told, window: label}) for label in range(second.labels))

        return tried(dict(zip(windows, fixed)))

    def test_by_hand(self):
        self.assertIsNone(least_lead(whole(4), whole(3), 0))
        lead = least_lead(whole(4), whole(3), 1)
        self.assertIs(is_right_lead(lead), True)
        self.assertEqual(lead.rounds, 1)
        self.assertEqual(least_lead(brute.CHESS, brute.COLOURS, 0), Lead(brute.CHESS, brute.COLOURS, 0,
                                                                         {(0,): 0, (1,): 1}))
        loop = RingProblem(12, [(7, 7)])
        for rounds in range(4):
            lead = least_lead(brute.LINE_12, loop, rounds)
            self.assertEqual(set(lead.answers.values()), {7})
        self.assertEqual(least_lead(brute.EMPTY_12, RingProblem(1, []), 3), Lead(brute.EMPTY_12, RingProblem(1, []), 3, {}))

    def test_limits(self):
        self.assertIsNone(least_lead(whole(12), whole(11), 0))
        self.assertEqual(list(least_lead(whole(12), whole(12), 0).answers.values()), list(range(12)))
        for first, second, rounds in ((circle(5, (2, 3, 4)), circle(9, (1, 3, 4, 5)), 1),
                                      (circle(5, (1, 2, 3)), circle(12, (2, 3, 5, 9, 10)), 1)):
            self.assertIsNone(least_lead(first, second, rounds))
        # 60 pieces of three labels are gone through, 61 are too many.
        sixty = RingProblem(5, list(whole(5).pairs)[:-4] + [(0, 0)])
        self.assertGreater(len(pieces(whole(5), 3)), 60)
        self.assertEqual(raised(TooMany, least_lead, whole(5), whole(5), 1).most, 60)
        self.assertLessEqual(len(pieces(sixty, 3)), 60)
        least_lead(sixty, whole(12), 1)
        self.assertEqual(raised(TooMany, least_lead, brute.WHOLE_12, loop_of(12), 3).most, 60)

    def test_just_sixty(self):
        # A line of labels there and back whose windows are counted by hand: one more chord is one window too many.
        rng = random.Random(503)
        seen = set()
        while not {60, 61} <= seen:
            first = RingProblem(6, brute.some_of(rng, brute.all_pairs(6), 0.45))
            many = len(pieces(first, 3))
            if many == 60:
                self.assertIs(is_right_lead(least_lead(first, brute.WHOLE_12, 1)), True)
                seen.add(many)
            elif many == 61:
                self.assertEqual(raised(TooMany, least_lead, first, brute.WHOLE_12, 1).most, 60)
                seen.add(many)

    def test_fewest_rounds(self):
        rng = random.Random(504)
        for _ in range(120):
            first = RingProblem(3, brute.some_of(rng, brute.all_pairs(3), 0.6))
            second = RingProblem(3, brute.some_of(rng, brute.all_pairs(3), 0.5))
            for most in range(4):
                expected, error = None, None
                for rounds in range(most + 1):
                    try:
                        expected = least_lead(first, second, rounds)
                    except TooMany as told:
                        error = told
                        break
                    if expected is not None:
                        break
                if error is None:
                    self.assertEqual(fewest_rounds_lead(first, second, most), expected)
                else:
                    self.assertEqual(raised(TooMany, fewest_rounds_lead, first, second, most).most, 60)
        self.assertEqual(fewest_rounds_lead(whole(4), whole(3), 3).rounds, 1)
        self.assertIsNone(fewest_rounds_lead(whole(4), whole(3), 0))
        self.assertEqual(raised(TooMany, fewest_rounds_lead, whole(4), whole(2), 3).most, 60)
        self.assertEqual(fewest_rounds_lead(whole(12), whole(12), 3).rounds, 0)

    def test_wrong_values(self):
        good = brute.CHESS
        for call, part in ((least_lead, "rounds"), (fewest_rounds_lead, "most")):
            for thing in STRANGE + (PathProblem(1, [], [], []),):
                self.assertIsNone(raised(BadProblem, call, thing, None, None).part)
                self.assertIsNone(raised(BadProblem, call, good, thing, None).part)
                self.assertIsNone(raised(BadProblem, call, first=good, second=thing, **{part: 9}).part)
            for number in (-1, 4, True, None, 1.0, "1"):
                self.assertEqual(raised(BadNumber, call, brute.WHOLE_12, good, number).part, part)


def loop_of(labels):
    return RingProblem(labels, [(0, 0)])


if __name__ == "__main__":
    unittest.main()
