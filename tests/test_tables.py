"""Promise 12: tables."""

import itertools
import random
import unittest

from roundwright.errors import BadNet, BadProblem, BadTable
from roundwright.nets import ring_window
from roundwright.problems import RingProblem, is_right
from roundwright.tables import Table, answered, is_sound, unsound_ring
from tests import brute
from tests.brute import STRANGE, raised


def windows(rounds, names):
    return list(itertools.permutations(range(1, names + 1), 2 * rounds + 1))


def constant(labels, rounds, names, label=0):
    return Table(labels, rounds, names, {window: label for window in windows(rounds, names)})


def random_table(rng, labels, rounds, names):
    return Table(labels, rounds, names, {window: rng.randrange(labels) for window in windows(rounds, names)})


def slow_unsound_ring(problem, table):
    """The least ring, of at least so many houses, on which a table answers wrongly; all rings are gone through."""
    for size in range(2 * table.rounds + 2, table.names + 1):
        for net in itertools.permutations(range(1, table.names + 1), size):
            line = tuple(table.answers[ring_window(net, at, table.rounds)] for at in range(size))
            if not brute.slow_right(problem, line):
                return net
    return None


class TestMaking(unittest.TestCase):
    def test_attributes(self):
        answers = {(3,): 0, (1,): 1, (2,): 2}
        table = Table(3, 0, 3, answers)
        self.assertEqual((table.labels, table.rounds, table.names), (3, 0, 3))
        self.assertEqual(list(table.answers.items()), [((1,), 1), ((2,), 2), ((3,), 0)])
        self.assertEqual(list(answers), [(3,), (1,), (2,)])
        answers[(1,)] = 0
        self.assertEqual(table.answers[(1,)], 1)
        self.assertEqual(Table(answers={(1,): 0}, names=1, rounds=0, labels=1), constant(1, 0, 1))

    def test_equal(self):
        table = constant(2, 0, 3)
        self.assertEqual(table, constant(2, 0, 3))
        for other in (constant(3, 0, 3), constant(2, 0, 4), constant(2, 1, 3), constant(2, 0, 3, 1), None, 2):
            self.assertNotEqual(table, other)

    def test_first_wrong_part_is_told(self):
        self.assertEqual(raised(BadTable, Table, 0, 9, 0, None).part, "labels")
        for labels in (0, 13, True, None, 2.0, "2"):
            self.assertEqual(raised(BadTable, Table, labels, None, None, None).part, "labels")
        for rounds in (-1, 4, False, None, 1.0):
            self.assertEqual(raised(BadTable, Table, 2, rounds, None, None).part, "rounds")
        for rounds, names in ((0, 0), (0, 225), (1, 2), (1, 17), (2, 4), (2, 9), (3, 6), (3, 9), (0, 10 ** 400)):
            self.assertEqual(raised(BadTable, Table, 2, rounds, names, None).part, "names")
        for names in (True, None, 3.0, "3"):
            self.assertEqual(raised(BadTable, Table, 2, 0, names, None).part, "names")

    def test_wrong_answers(self):
        good = {(1,): 0, (2,): 1}
        wrong = (
            None, [], (), [((1,), 0), ((2,), 1)], {}, {(1,): 0}, {**good, (3,): 0}, {(1,): 0, (3,): 0},
            {(1,): 0, (2,): 2}, {(1,): 0, (2,): -1}, {(1,): 0, (2,): True}, {(1,): 0, (2,): None}, {1: 0, 2: 1},
            {(True,): 0, (2,): 1}, {(1.0,): 0, (2,): 1}, {(1,): 0, (2,): 1.0}, {(1, 2): 0, (2, 1): 1},
            {"1": 0, "2": 1}, {None: 0, (1,): 1})
        for answers in wrong:
            self.assertEqual(raised(BadTable, Table, 2, 0, 2, answers).part, "answers", answers)
        self.assertEqual(Table(2, 0, 2, good).answers, good)

    def test_greatest_numbers_of_names(self):
        for rounds, names in ((0, 1), (0, 224), (1, 3), (1, 16), (2, 5), (2, 8), (3, 7), (3, 8)):
            table = constant(12, rounds, names, 11)
            self.assertEqual(len(table.answers), len(windows(rounds, names)))
            self.assertEqual(list(table.answers), windows(rounds, names))


class TestAnswers(unittest.TestCase):
    def test_answered(self):
        rng = random.Random(3)
        for rounds, names in ((0, 5), (1, 5), (2, 6), (3, 7)):
            table = random_table(rng, 3, rounds, names)
            for size in range(2 * rounds + 1, names + 1):
                net = tuple(rng.sample(range(1, names + 1), size))
                expected = tuple(table.answers[ring_window(net, at, rounds)] for at in range(size))
                self.assertEqual(answered(table, net), expected)

    def test_wrong_nets(self):
        table = constant(2, 1, 4)
        for net in ((1, 2), (1,), (1, 2, 5), (1, 2, 2), [1, 2, 3], None, (), (True, 2, 3)):
            raised(BadNet, answered, table, net)
        for thing in STRANGE:
            self.assertIsNone(raised(BadTable, answered, thing, None).part)
        self.assertEqual(answered(constant(1, 0, 1), (1,)), (0,))

    def test_errors_of_sound(self):
        table = constant(2, 0, 3)
        for call in (is_sound, unsound_ring):
            for thing in STRANGE + (brute.CHESS_PATH,):
                self.assertIsNone(raised(BadProblem, call, thing, None).part)
            for thing in STRANGE:
                self.assertIsNone(raised(BadTable, call, brute.CHESS, thing).part)
            self.assertEqual(raised(BadTable, call, brute.COLOURS, table).part, "labels")

    def test_sound_against_all_rings(self):
        rng = random.Random(4)
        seen = []
        for rounds, names, many in ((0, 2, 20), (0, 4, 60), (1, 4, 20), (1, 5, 12), (2, 6, 3), (1, 3, 3)):
            for _ in range(many):
                table = random_table(rng, 2, rounds, names)
                problem = RingProblem(2, brute.some_of(rng, brute.all_pairs(2), 0.85))
                expected = slow_unsound_ring(problem, table)
                self.assertEqual(unsound_ring(problem, table), expected)
                self.assertIs(is_sound(problem, table), expected is None)
                if expected is not None:
                    self.assertFalse(is_right(problem, answered(table, expected)))
                seen.append(expected is None)
        self.assertIn(True, seen)
        self.assertIn(False, seen)

    def test_the_greatest_tables(self):
        names = 8
        table = constant(12, 3, names)
        self.assertTrue(is_sound(brute.WHOLE_12, table))
        self.assertEqual(unsound_ring(brute.EMPTY_12, table), (1, 2, 3, 4, 5, 6, 7, 8))
        self.assertTrue(is_sound(brute.EMPTY_12, constant(12, 3, 7)))
        many = Table(12, 0, 224, {(name,): name % 12 for name in range(1, 225)})
        self.assertEqual(unsound_ring(brute.WHOLE_12, many), None)
        self.assertEqual(unsound_ring(brute.LINE_12, many), (1, 2))
        least = min(
            ring for ring in itertools.permutations(range(1, 5), 4) if ring[0] == 1)
        self.assertEqual(unsound_ring(RingProblem(1, []), constant(1, 1, 4)), least)


if __name__ == "__main__":
    unittest.main()
