"""Promises 27 and 86: other numbers for the labels of problems, labellings and tables."""

import itertools
import random
import unittest

from roundwright.errors import BadLabelling, BadNumber, BadOrder, BadProblem, BadTable, TooMany
from roundwright.likes import least_form, relabelled, relabelling, useful_form
from roundwright.parts import useful
from roundwright.problems import PathProblem, RingProblem, first_break, how_many, is_right
from roundwright.renumbers import renumbered_labelling, renumbered_table
from roundwright.tables import is_sound, unsound_ring
from tests import brute
from tests.brute import STRANGE, raised
from tests.test_tables import constant, random_table


def told(problem):
    if brute.is_ring(problem):
        return (problem.pairs,)
    return (problem.pairs, problem.starts, problem.ends)


def slow_relabelling(problem, other):
    if problem.labels != other.labels:
        return None
    for names in itertools.permutations(range(problem.labels)):
        if relabelled(problem, names) == other:
            return names
    return None


def circulant(*steps):
    return RingProblem(12, [(at, (at + step) % 12) for at in range(12) for step in steps])


class TestRelabelled(unittest.TestCase):
    def test_by_hand(self):
        path = PathProblem(3, [(0, 1), (1, 2), (2, 2)], [0], [1, 2])
        self.assertEqual(relabelled(path, [2, 0, 1]), PathProblem(3, [(2, 0), (0, 1), (1, 1)], [2], [0, 1]))
        self.assertEqual(relabelled(problem=brute.CHESS, names=(1, 0)), brute.CHESS)

    def test_wrong_names(self):
        for names in (None, [0], [0, 1, 2], [0, 0], [0, 2], [True, 0], [1.0, 0], "01", {0, 1}, {0: 1, 1: 0}, (None, 0)):
            self.assertEqual(raised(BadNumber, relabelled, brute.CHESS, names).part, "names")
        for thing in STRANGE:
            self.assertIsNone(raised(BadProblem, relabelled, thing, None).part)

    def test_names_stay(self):
        names = [1, 0]
        relabelled(brute.CHESS, names)
        self.assertEqual(names, [1, 0])


class TestRelabelling(unittest.TestCase):
    def test_against_all_names(self):
        rng = random.Random(71)
        found = []
        for problem in brute.random_problems(72, 120, 5) + brute.tiny_problems():
            names = rng.sample(range(problem.labels), problem.labels)
            other = relabelled(problem, names)
            self.assertEqual(relabelling(problem, other), slow_relabelling(problem, other))
            make = brute.random_ring if brute.is_ring(problem) else brute.random_path
            for labels in (problem.labels, rng.randint(1, 5)):
                other = make(rng, labels)
                found.append(relabelling(problem, other))
                self.assertEqual(found[-1], slow_relabelling(problem, other))
        self.assertTrue(any(names is not None for names in found))

    def test_twelve_labels(self):
        rng = random.Random(73)
        great = [brute.random_problem(rng, 12) for _ in range(20)]
        great += [brute.WHOLE_12, brute.EMPTY_12, brute.LINE_12, brute.WIELANDT_12, circulant(1, 11), circulant(3)]
        for problem in great:
            names = rng.sample(range(12), 12)
            other = relabelled(problem, names)
            found = relabelling(problem, other)
            self.assertEqual(relabelled(problem, found), other)
            self.assertLessEqual(found, tuple(names))
        self.assertIsNone(relabelling(circulant(3), circulant(2)))
        self.assertIsNone(relabelling(circulant(1), circulant(2)))
        self.assertIsNone(relabelling(circulant(4), circulant(2)))
        self.assertIsNone(relabelling(circulant(1, 11), circulant(2, 10)))
        self.assertIsNone(relabelling(circulant(3, 9), circulant(4, 8)))
        self.assertEqual(relabelling(circulant(1), circulant(5))[:3], (0, 5, 10))
        self.assertEqual(relabelling(brute.EMPTY_12, brute.EMPTY_12), tuple(range(12)))
        first = [(a, b) for a, b in brute.all_pairs(12) if a < 6 and b < 6 and (a + 1) % 6 == b]
        six = RingProblem(12, [(a + 6, b + 6) for a, b in first])
        threes = RingProblem(12, [(a, a + 1 - 3 * (a % 3 == 2)) for a in range(6, 12)])
        self.assertIsNone(relabelling(six, threes))

    def test_wrong_values(self):
        for thing in STRANGE:
            self.assertIsNone(raised(BadProblem, relabelling, thing, thing).part)
            self.assertIsNone(raised(BadProblem, relabelling, brute.CHESS_PATH, thing).part)
        self.assertEqual(raised(BadProblem, relabelling, brute.CHESS, brute.CHESS_PATH).part, "kind")


class TestLeastForm(unittest.TestCase):
    def test_against_all_names(self):
        for problem in brute.random_problems(74, 40, 4) + brute.tiny_problems():
            every = [relabelled(problem, names) for names in itertools.permutations(range(problem.labels))]
            self.assertEqual(least_form(problem), min(every, key=told))

    def test_alike_exactly_if_the_forms_are_equal(self):
        rng = random.Random(75)
        for labels in (2, 3, 6):
            rings = [RingProblem(labels, brute.some_of(rng, brute.all_pairs(labels), 0.4)) for _ in range(8)]
            rings += [relabelled(ring, rng.sample(range(labels), labels)) for ring in rings[:4]]
            forms = [least_form(ring) for ring in rings]
            for at, one in enumerate(rings):
                for by, other in enumerate(rings):
                    self.assertEqual(relabelling(one, other) is not None, forms[at] == forms[by])

    def test_six_and_seven_labels(self):
        self.assertEqual(least_form(RingProblem(6, [(5, 5)])), RingProblem(6, [(0, 0)]))
        self.assertEqual(raised(TooMany, least_form, RingProblem(7, [])).most, 6)
        self.assertEqual(raised(TooMany, least_form, PathProblem(12, [], [], [])).most, 6)
        for thing in STRANGE:
            self.assertIsNone(raised(BadProblem, least_form, thing).part)

    def test_it_is_new(self):
        problem = RingProblem(1, [])
        self.assertIsNot(least_form(problem), problem)


class TestUsefulForm(unittest.TestCase):
    def test_labellings_are_those_of_the_lean_problem(self):
        for problem in brute.random_problems(76, 80, 4) + brute.tiny_problems():
            form = useful_form(problem)
            if useful(problem) == ():
                self.assertIsNone(form)
                continue
            lean, names = form
            self.assertEqual(names, useful(problem))
            self.assertEqual(useful(lean), tuple(range(lean.labels)))
            for size in range(1, 5):
                lines = [tuple(names[label] for label in line) for line in brute.slow_labellings(lean, size)]
                self.assertEqual(lines, brute.slow_labellings(problem, size))

    def test_by_hand(self):
        path = PathProblem(4, [(0, 3), (3, 1), (2, 3)], [0], [1, 2])
        self.assertEqual(useful_form(path), (PathProblem(3, [(0, 2), (2, 1)], [0], [1]), (0, 1, 3)))
        self.assertIsNone(useful_form(brute.EMPTY_12))
        for thing in STRANGE:
            self.assertIsNone(raised(BadProblem, useful_form, thing).part)


class TestRenumbers(unittest.TestCase):
    def test_labellings(self):
        rng = random.Random(77)
        for problem in brute.random_problems(78, 60, 4):
            order = tuple(rng.sample(range(problem.labels), problem.labels))
            other = relabelled(problem, order)
            for size in range(1, 6):
                self.assertEqual(how_many(problem, size), how_many(other, size))
                line = tuple(rng.randrange(problem.labels) for _ in range(size))
                told_line = renumbered_labelling(problem, line, order)
                self.assertEqual(told_line, tuple(order[label] for label in line))
                self.assertEqual(first_break(problem, line), first_break(other, told_line))
                self.assertEqual(is_right(problem, line), is_right(other, told_line))

    def test_tables(self):
        rng = random.Random(79)
        for rounds, names in ((0, 4), (1, 4), (1, 5)):
            for _ in range(10):
                table = random_table(rng, 3, rounds, names)
                problem = RingProblem(3, brute.some_of(rng, brute.all_pairs(3), 0.9))
                order = tuple(rng.sample(range(3), 3))
                other = renumbered_table(table, order)
                self.assertEqual((other.labels, other.rounds, other.names), (3, rounds, names))
                self.assertEqual(other.answers, {key: order[label] for key, label in table.answers.items()})
                self.assertEqual(is_sound(problem, table), is_sound(relabelled(problem, order), other))
                self.assertEqual(unsound_ring(problem, table), unsound_ring(relabelled(problem, order), other))

    def test_nothing_handed_in_changes(self):
        table = constant(2, 0, 3)
        other = renumbered_table(table, (1, 0))
        self.assertEqual(table, constant(2, 0, 3))
        other.answers[(1,)] = 0
        self.assertEqual(table, constant(2, 0, 3))
        same = renumbered_table(table, (0, 1))
        self.assertEqual(same, table)
        self.assertIsNot(same.answers, table.answers)

    def test_wrong_values(self):
        table = constant(2, 0, 3)
        for order in ([1, 0], (0,), (0, 1, 2), (0, 0), (True, False), (0.0, 1), None, "01", (1, 2), {0: 1, 1: 0}):
            raised(BadOrder, renumbered_labelling, brute.CHESS, (0, 1), order)
            raised(BadOrder, renumbered_table, table, order)
        for line in ((), [0], (2,), None, (True,), (0,) * 401):
            raised(BadLabelling, renumbered_labelling, brute.CHESS, line, None)
        for thing in STRANGE:
            self.assertIsNone(raised(BadProblem, renumbered_labelling, thing, None, None).part)
            self.assertIsNone(raised(BadTable, renumbered_table, thing, None).part)
        self.assertEqual(renumbered_labelling(brute.CHESS, (0,) * 400, (1, 0)), (1,) * 400)


if __name__ == "__main__":
    unittest.main()
