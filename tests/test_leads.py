"""Promises 56, 57 and 59: pieces, leads and leads made of leads."""

import itertools
import random
import unittest

from roundwright.errors import BadLabelling, BadLead, BadNumber, BadPiece, BadProblem, TooMany
from roundwright.leadchains import after, leads_alike, own_lead, two_way, widened
from roundwright.leads import Lead, bad_piece, is_right_lead, led
from roundwright.pieces import can_stand_in_ring, pieces, ring_with
from roundwright.problems import PathProblem, RingProblem, is_right
from roundwright.sides import SideProblem, how_many_sides, is_right_sides, some_sides
from tests import brute
from tests.brute import STRANGE, raised

PROBLEMS = brute.random_rings(121, 60, 4) + [one for one in brute.tiny_problems() if brute.is_ring(one)]
SEVEN = RingProblem(7, brute.all_pairs(7))


def by_rows(*rows):
    """The problem in which each label is followed by the labels of its row."""
    return RingProblem(len(rows), [(label, int(other)) for label, row in enumerate(rows) for other in row])


#: Problems with just so many pieces of 5, 6 and 7 labels: 4000 of 5, 4000 and 4001 of 6, 4001 of 7.
JUST_5 = by_rows("01235", "0345", "0345", "012345", "012345", "02345")
JUST_6 = by_rows("2345", "234", "01234", "0134", "024", "14")
MORE_6 = by_rows("012", "034", "34", "0134", "01235", "012345")
MORE_7 = by_rows("01245", "025", "25", "135", "01234", "23")


def slow_pieces(problem, many):
    """All tuples of so many labels that stand in some right labelling of some ring."""
    reach = set()
    for steps in range(1, problem.labels + 1):
        reach |= brute.walks_between(problem.pairs, problem.labels, steps)
    found = []
    for line in itertools.product(range(problem.labels), repeat=many):
        if all(pair in problem.pairs for pair in zip(line, line[1:])) and (line[-1], line[0]) in reach:
            found.append(line)
    return found


def answers_of(rng, first, second, rounds):
    return {piece: rng.randrange(second.labels) for piece in pieces(first, 2 * rounds + 1)}


def random_lead(rng, first, second, rounds):
    return Lead(first, second, rounds, answers_of(rng, first, second, rounds))


def random_right_lead(rng, first, second, rounds):
    """A right lead, if some hundred tries find one."""
    for _ in range(200):
        lead = random_lead(rng, first, second, rounds)
        if is_right_lead(lead):
            return lead
    return None


class TestPieces(unittest.TestCase):
    def test_against_all_tuples(self):
        for problem in PROBLEMS:
            for many in range(1, 5):
                expected = slow_pieces(problem, many)
                self.assertEqual(pieces(problem, many), expected)
                for line in itertools.product(range(problem.labels), repeat=many):
                    self.assertIs(can_stand_in_ring(problem, line), line in expected)

    def test_any_value_is_judged(self):
        for thing in STRANGE + ((), [0, 1], (0, 3), (3,), (4,), (-1,), (True, 2), (0, 1.0), "01", (0, None), (0, [1])):
            self.assertIs(can_stand_in_ring(brute.COLOURS, thing), False, repr(thing)[:40])
            raised(BadPiece, ring_with, brute.COLOURS, thing)
        self.assertIs(can_stand_in_ring(brute.CHESS, (0, 1) * 1000), True)
        for thing in STRANGE + (brute.CHESS_PATH,):
            self.assertIsNone(raised(BadProblem, can_stand_in_ring, thing, None).part)
            self.assertIsNone(raised(BadProblem, pieces, thing, None).part)
            self.assertIsNone(raised(BadProblem, ring_with, thing, None).part)
        for many in (0, 9, True, None, 1.0):
            self.assertEqual(raised(BadNumber, pieces, brute.COLOURS, many).part, "many")

    def test_how_many_at_most(self):
        self.assertEqual(len(pieces(brute.WHOLE_12, 3)), 1728)
        for many in (4, 8):
            self.assertEqual(raised(TooMany, pieces, brute.WHOLE_12, many).most, 4000)
        self.assertEqual(len(pieces(SEVEN, 4)), 2401)
        self.assertEqual(raised(TooMany, pieces, SEVEN, 5).most, 4000)
        self.assertEqual(pieces(brute.EMPTY_12, 8), [])
        self.assertEqual(len(pieces(brute.LINE_12, 8)), 12)
        self.assertEqual(len(pieces(RingProblem(2, brute.all_pairs(2)), 8)), 256)
        self.assertEqual(len(pieces(JUST_5, 5)), 4000)
        self.assertEqual(len(pieces(JUST_6, 6)), 4000)
        self.assertEqual(raised(TooMany, pieces, MORE_6, 6).most, 4000)
        self.assertEqual(raised(TooMany, pieces, MORE_7, 7).most, 4000)

    def test_rings_with_pieces(self):
        for problem in PROBLEMS:
            for many in range(1, 4):
                for piece in pieces(problem, many):
                    size = many
                    while True:
                        lines = [line for line in brute.slow_labellings(problem, size) if line[:many] == piece]
                        if lines:
                            break
                        size += 1
                    self.assertEqual(ring_with(problem, piece), lines[0])

    def test_the_greatest_pieces(self):
        piece = tuple(at % 12 for at in range(100))
        self.assertEqual(ring_with(brute.LINE_12, piece), tuple(at % 12 for at in range(108)))
        self.assertEqual(ring_with(brute.LINE_12, piece[:-3]), tuple(at % 12 for at in range(108)))
        raised(BadPiece, ring_with, brute.LINE_12, tuple(at % 12 for at in range(101)))
        self.assertEqual(ring_with(brute.CHESS, (1,)), (1, 0))
        self.assertEqual(ring_with(RingProblem(2, [(1, 1), (0, 1), (1, 0)]), (1,)), (1,))
        self.assertEqual(ring_with(brute.COLOURS, (0, 1, 0)), (0, 1, 0, 1))

    def test_lists_are_new(self):
        pieces(brute.CHESS, 1).clear()
        self.assertEqual(pieces(brute.CHESS, 1), [(0,), (1,)])


class TestLead(unittest.TestCase):
    def test_attributes(self):
        answers = {(1,): 0, (0,): 2}
        lead = Lead(brute.CHESS, brute.COLOURS, 0, answers)
        self.assertEqual((lead.first, lead.second, lead.rounds), (brute.CHESS, brute.COLOURS, 0))
        self.assertEqual(list(lead.answers.items()), [((0,), 2), ((1,), 0)])
        answers[(1,)] = 1
        self.assertEqual(lead.answers[(1,)], 0)
        self.assertEqual(Lead(answers={}, rounds=3, second=brute.CHESS, first=brute.EMPTY_12).answers, {})

    def test_equal(self):
        lead = Lead(brute.CHESS, brute.COLOURS, 0, {(0,): 0, (1,): 1})
        self.assertEqual(lead, Lead(brute.CHESS, brute.COLOURS, 0, {(1,): 1, (0,): 0}))
        for other in (Lead(brute.CHESS, brute.COLOURS, 0, {(0,): 1, (1,): 1}),
                      Lead(brute.CHESS, brute.CHESS, 0, {(0,): 0, (1,): 1}),
                      Lead(brute.CHESS, brute.COLOURS, 1, {(0, 1, 0): 1, (1, 0, 1): 0}),
                      Lead(RingProblem(3, brute.CHESS.pairs), brute.COLOURS, 0, {(0,): 0, (1,): 1}), None, 0):
            self.assertNotEqual(lead, other)

    def test_first_wrong_part_is_told(self):
        for thing in STRANGE + (brute.CHESS_PATH,):
            self.assertIsNone(raised(BadProblem, Lead, thing, brute.CHESS, None, None).part)
            self.assertIsNone(raised(BadProblem, Lead, brute.CHESS, thing, None, None).part)
        for rounds in (-1, 4, True, None, 1.0):
            self.assertEqual(raised(BadLead, Lead, brute.WHOLE_12, brute.CHESS, rounds, None).part, "rounds")
        self.assertEqual(raised(TooMany, Lead, brute.WHOLE_12, brute.CHESS, 2, None).most, 4000)
        wrong = (None, [], {}, {(0,): 0}, {(0,): 0, (1,): 2}, {(0,): 0, (1,): True}, {(0,): 0, (1,): None},
                 {0: 0, 1: 1}, {(0,): 0, (True,): 1}, {(0.0,): 0, (1,): 1}, {(0,): 0, (1,): 0, (2,): 0},
                 {(0,): 0, (2,): 0}, {(0, 1): 0, (1, 0): 1}, [((0,), 0), ((1,), 1)], {"0": 0, "1": 1},
                 {(0,): 0, (1,): -1}, {(0,): 0, (1,): 1.0}, {(0,): 0, None: 1})
        for answers in wrong:
            self.assertEqual(raised(BadLead, Lead, brute.CHESS, brute.CHESS, 0, answers).part, "answers", answers)

    def test_led(self):
        rng = random.Random(122)
        for first in PROBLEMS:
            second = brute.random_ring(rng, 3)
            for rounds in (0, 1, 2):
                lead = random_lead(rng, first, second, rounds)
                for size in range(1, 5):
                    for line in brute.slow_labellings(first, size)[:10]:
                        expected = tuple(
                            lead.answers[tuple(line[spot % size] for spot in range(at - rounds, at + rounds + 1))]
                            for at in range(size))
                        self.assertEqual(led(lead, line), expected)

    def test_led_wants_right_labellings(self):
        lead = own_lead(brute.CHESS)
        for line in ((0,), (0, 1, 0), (), [0, 1], (0, 2), None, (False, True), (0, 0)):
            raised(BadLabelling, led, lead, line)
        self.assertEqual(led(lead, (0, 1) * 200), (0, 1) * 200)
        for thing in STRANGE:
            for call, rest in ((led, (None,)), (bad_piece, ()), (is_right_lead, ())):
                self.assertIsNone(raised(BadLead, call, thing, *rest).part)

    def test_bad_pieces(self):
        rng = random.Random(123)
        seen = set()
        for first in PROBLEMS:
            for rounds in (0, 1):
                second = RingProblem(3, brute.some_of(rng, brute.all_pairs(3), 0.8))
                lead = random_lead(rng, first, second, rounds)
                bad = [piece for piece in slow_pieces(first, 2 * rounds + 2)
                       if (lead.answers[piece[:-1]], lead.answers[piece[1:]]) not in second.pairs]
                self.assertEqual(bad_piece(lead), bad[0] if bad else None)
                self.assertIs(is_right_lead(lead), not bad)
                seen.add(bool(bad))
                if bad:
                    line = ring_with(first, bad[0])
                    self.assertFalse(is_right(second, led(lead, line)))
                else:
                    for size in range(1, 6):
                        for line in brute.slow_labellings(first, size)[:20]:
                            self.assertTrue(is_right(second, led(lead, line)))
        self.assertEqual(seen, {True, False})

    def test_great_leads(self):
        great = own_lead(brute.WHOLE_12)
        self.assertEqual(len(widened(great, 1).answers), 1728)
        self.assertEqual(raised(TooMany, bad_piece, widened(great, 1)).most, 4000)
        self.assertEqual(raised(TooMany, is_right_lead, widened(great, 1)).most, 4000)
        self.assertTrue(is_right_lead(great))
        three = Lead(brute.LINE_12, brute.LINE_12, 3, {piece: piece[5] for piece in pieces(brute.LINE_12, 7)})
        self.assertTrue(is_right_lead(three))
        self.assertEqual(led(three, tuple(range(12))), tuple((at + 2) % 12 for at in range(12)))
        same = {piece: 0 for piece in pieces(brute.COLOURS, 7)}
        self.assertEqual(bad_piece(Lead(brute.COLOURS, brute.COLOURS, 3, same)), (0, 1) * 4)

    def test_just_4000_pieces(self):
        lead = widened(own_lead(JUST_5), 2)
        self.assertEqual(len(lead.answers), 4000)
        self.assertEqual(raised(TooMany, is_right_lead, lead).most, 4000)
        self.assertTrue(is_right_lead(widened(own_lead(JUST_6), 2)))
        self.assertEqual(raised(TooMany, bad_piece, widened(own_lead(MORE_6), 2)).most, 4000)
        self.assertEqual(raised(TooMany, Lead, MORE_7, MORE_7, 3, None).most, 4000)
        self.assertEqual(raised(TooMany, widened, own_lead(MORE_7), 3).most, 4000)


class TestChains(unittest.TestCase):
    def leads(self, seed):
        """Right leads behind right leads, of 0 to 3 rounds together."""
        rng = random.Random(seed)
        found = []
        while len(found) < 30:
            first, second, third = [RingProblem(labels, brute.some_of(rng, brute.all_pairs(labels), 0.75))
                                    for labels in (rng.randint(1, 3), 2, rng.randint(1, 3))]
            rounds = rng.choice(((0, 0), (0, 1), (1, 0), (1, 1), (0, 2), (2, 0)))
            lead = random_right_lead(rng, first, second, rounds[0])
            if lead is not None:
                other = random_right_lead(rng, second, third, rounds[1])
                found.append((lead, other or random_lead(rng, second, third, rounds[1])))
        return found

    def test_own_lead(self):
        for problem in PROBLEMS:
            lead = own_lead(problem)
            self.assertEqual((lead.first, lead.second, lead.rounds), (problem, problem, 0))
            self.assertEqual(lead.answers, {piece: piece[0] for piece in slow_pieces(problem, 1)})
            self.assertTrue(is_right_lead(lead))
        for thing in STRANGE + (brute.CHESS_PATH,):
            self.assertIsNone(raised(BadProblem, own_lead, thing).part)

    def test_widened(self):
        rng = random.Random(124)
        for first in PROBLEMS:
            lead = random_lead(rng, first, brute.COLOURS, rng.choice((0, 1)))
            for rounds in range(lead.rounds, 4):
                if rounds == 3 and len(pieces(first, 3)) > 30:
                    continue
                wide = widened(lead, rounds)
                self.assertEqual((wide.first, wide.second, wide.rounds), (first, brute.COLOURS, rounds))
                for size in range(1, 5):
                    for line in brute.slow_labellings(first, size)[:10]:
                        self.assertEqual(led(wide, line), led(lead, line))
                self.assertTrue(leads_alike(lead, wide))
        lead = own_lead(brute.CHESS)
        for rounds in (-1, 4, True, None, 1.0):
            self.assertEqual(raised(BadNumber, widened, lead, rounds).part, "rounds")
        self.assertEqual(raised(BadNumber, widened, widened(lead, 2), 1).part, "rounds")
        self.assertEqual(raised(TooMany, widened, own_lead(brute.WHOLE_12), 2).most, 4000)
        same = widened(lead, 0)
        self.assertEqual(same, lead)
        self.assertIsNot(same.answers, lead.answers)

    def test_one_behind_the_other(self):
        for lead, other in self.leads(125):
            both = after(lead, other)
            self.assertEqual((both.first, both.second), (lead.first, other.second))
            self.assertEqual(both.rounds, lead.rounds + other.rounds)
            for size in range(1, 6):
                for line in brute.slow_labellings(lead.first, size)[:20]:
                    self.assertEqual(led(both, line), led(other, led(lead, line)))
            if is_right_lead(other):
                self.assertTrue(is_right_lead(both))
            self.assertEqual(after(own_lead(lead.first), lead), lead)
            self.assertEqual(after(lead, own_lead(lead.second)), lead)

    def test_errors_of_after(self):
        chess, colours = own_lead(brute.CHESS), own_lead(brute.COLOURS)
        wrong = Lead(brute.CHESS, brute.CHESS, 0, {(0,): 0, (1,): 0})
        for thing in STRANGE:
            for call in (after, leads_alike):
                self.assertIsNone(raised(BadLead, call, thing, thing).part)
                self.assertIsNone(raised(BadLead, call, chess, thing).part)
            self.assertIsNone(raised(BadLead, widened, thing, None).part)
        self.assertEqual(raised(BadLead, after, chess, colours).part, "fit")
        self.assertEqual(raised(BadLead, after, wrong, colours).part, "fit")
        self.assertEqual(raised(BadLead, after, wrong, chess).part, "right")
        self.assertEqual(raised(BadLead, after, widened(wrong, 3), widened(chess, 3)).part, "right")
        self.assertEqual(raised(TooMany, after, widened(chess, 1), widened(chess, 3)).most, 3)
        self.assertEqual(after(widened(chess, 1), widened(chess, 2)), widened(chess, 3))
        great = own_lead(brute.WHOLE_12)
        self.assertEqual(raised(TooMany, after, widened(great, 1), widened(great, 1)).most, 4000)
        self.assertEqual(after(great, widened(great, 1)), widened(great, 1))
        # 1728 pieces of 3 labels, but more than 4000 of 4: the Lead asked for has 1728 all the same.
        self.assertEqual(after(widened(great, 1), great), widened(great, 1))
        bad = Lead(brute.WHOLE_12, brute.LINE_12, 1, {piece: 0 for piece in pieces(brute.WHOLE_12, 3)})
        self.assertEqual(raised(BadLead, after, bad, own_lead(brute.LINE_12)).part, "right")
        half = Lead(brute.CHESS, brute.WHOLE_12, 3, {(0, 1) * 3 + (0,): 4, (1, 0) * 3 + (1,): 5})
        self.assertEqual(after(half, own_lead(brute.WHOLE_12)), half)

    def test_alike(self):
        rng = random.Random(126)
        seen = set()
        for _ in range(120):
            first = RingProblem(2, brute.some_of(rng, brute.all_pairs(2), 0.7))
            second = RingProblem(2, brute.all_pairs(2))
            lead, other = [random_lead(rng, first, second, rng.choice((0, 1))) for _ in range(2)]
            # Each window of three labels stands in a ring of at most four houses.
            expected = all(led(lead, line) == led(other, line)
                           for size in range(1, 5) for line in brute.slow_labellings(first, size))
            self.assertIs(leads_alike(lead, other), expected)
            seen.add(expected)
        self.assertEqual(seen, {True, False})
        chess = own_lead(brute.CHESS)
        self.assertEqual(raised(BadLead, leads_alike, chess, own_lead(brute.COLOURS)).part, "fit")
        other = Lead(brute.CHESS, brute.COLOURS, 0, {(0,): 0, (1,): 1})
        self.assertEqual(raised(BadLead, leads_alike, chess, other).part, "fit")
        self.assertEqual(raised(BadLead, leads_alike, other, chess).part, "fit")
        great = own_lead(brute.WHOLE_12)
        self.assertIs(leads_alike(great, widened(great, 1)), True)


class TestTwoWay(unittest.TestCase):
    def test_right_told_both_ways(self):
        for problem in PROBLEMS:
            sides = two_way(problem)
            self.assertEqual(sides.tops, tuple((a, a) for a in range(problem.labels)))
            self.assertEqual(sides.lines, tuple(
                (a, b) for a in range(problem.labels) for b in range(a, problem.labels)
                if (a, b) in problem.pairs and (b, a) in problem.pairs))
            for size in range(1, 5):
                both = [line for line in brute.slow_labellings(problem, size)
                        if brute.slow_right(problem, line[::-1])]
                lines = [tuple((a, a) for a in line) for line in both]
                self.assertEqual(how_many_sides(sides, size), len(lines))
                self.assertTrue(all(is_right_sides(sides, line) for line in lines))
                self.assertEqual(some_sides(sides, size), min(lines, default=None))

    def test_limits(self):
        self.assertEqual(two_way(RingProblem(6, [])), SideProblem(6, [(a, a) for a in range(6)], []))
        self.assertEqual(raised(TooMany, two_way, SEVEN).most, 6)
        for thing in STRANGE + (PathProblem(7, [], [], []),):
            self.assertIsNone(raised(BadProblem, two_way, thing).part)


if __name__ == "__main__":
    unittest.main()
