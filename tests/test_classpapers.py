"""Promise 25: papers."""

import itertools
import math
import random
import unittest

from roundwright.classes import class_of
from roundwright.classpapers import is_paper, paper_of
from roundwright.errors import BadProblem
from roundwright.parts import useful
from roundwright.problems import PathProblem, RingProblem
from tests import brute
from tests.brute import STRANGE, Odd, raised

WORDS = ("never", "stiff", "bending", "loop")
PROBLEMS = brute.random_problems(61, 150, 5) + brute.tiny_problems() + [
    brute.CHESS, brute.CHESS_PATH, brute.TWO_AND_THREE, brute.TWOS_OR_THREES,
    PathProblem(4, [(0, 1), (1, 2), (2, 1), (2, 3), (3, 1)], [0], [3])]
GREAT = brute.random_problems(62, 40, 12) + [brute.LINE_12, brute.WIELANDT_12, brute.WHOLE_12, brute.EMPTY_12]


def number(thing):
    return type(thing) is int


def slow_round(problem, thing):
    if type(thing) is not tuple or not 1 <= len(thing) <= 400 or not all(number(label) for label in thing):
        return False
    if not all((thing[at], thing[(at + 1) % len(thing)]) in problem.pairs for at in range(len(thing))):
        return False
    return thing[0] in useful(problem)


def slow_paper(problem, thing):
    """Whether a tuple that begins with a word is a paper, straight from the document."""
    few = useful(problem)
    pairs = [(a, b) for a, b in problem.pairs if a in few and b in few]
    if thing[0] == "loop":
        return len(thing) == 2 and number(thing[1]) and (thing[1], thing[1]) in pairs
    if thing[0] == "bending":
        if len(thing) != 3 or not slow_round(problem, thing[1]) or not slow_round(problem, thing[2]):
            return False
        if thing[1][0] != thing[2][0] or math.gcd(len(thing[1]), len(thing[2])) != 1:
            return False
        return not any(a == b for a, b in pairs)
    if thing[0] == "stiff":
        if len(thing) != 3 or type(thing[1]) is not tuple or len(thing[1]) != problem.labels:
            return False
        for mark in thing[1]:
            if type(mark) is not tuple or len(mark) != 3 or not all(number(part) for part in mark):
                return False
            if mark[1] < 2 or mark[2] not in range(mark[1]):
                return False
        for a, b in pairs:
            (rank, period, place), (other, period_b, place_b) = thing[1][a], thing[1][b]
            if rank < other:
                continue
            if (rank, period) != (other, period_b) or place_b != (0 if place == period - 1 else place + 1):
                return False
        return slow_round(problem, thing[2])
    ranks = thing[1]
    if len(thing) != 2 or type(ranks) is not tuple or len(ranks) != problem.labels:
        return False
    return all(number(rank) for rank in ranks) and all(ranks[a] < ranks[b] for a, b in pairs)


def bent(thing, rng):
    """The same thing with one number in it another one."""
    if type(thing) is not tuple:
        return thing + rng.choice((-1, 1)) if number(thing) else thing
    if not thing:
        return thing
    at = rng.randrange(len(thing))
    return thing[:at] + (bent(thing[at], rng),) + thing[at + 1:]


class TestPapers(unittest.TestCase):
    def test_each_problem_has_a_paper_of_its_class(self):
        seen = set()
        for problem in PROBLEMS + GREAT:
            paper = paper_of(problem)
            self.assertEqual(paper[0], class_of(problem))
            self.assertIs(is_paper(problem, paper), True)
            self.assertTrue(slow_paper(problem, paper))
            seen.add((paper[0], brute.is_ring(problem)))
        self.assertEqual(len(seen), 8)

    def test_there_are_no_papers_of_other_classes(self):
        # All small papers of all classes are gone through.
        for problem in brute.random_problems(63, 25, 2) + brute.tiny_problems():
            labels = range(problem.labels)
            rounds = [line for size in (1, 2, 3) for line in itertools.product(labels, repeat=size)]
            marks = [(rank, period, place) for rank in range(2) for period in (2, 3) for place in range(period)]
            things = [("loop", label) for label in labels]
            things += [("bending", one, two) for one in rounds for two in rounds]
            things += [("never", ranks) for ranks in itertools.product(range(3), repeat=problem.labels)]
            some = itertools.product(marks, repeat=problem.labels)
            things += [("stiff", mark, line) for mark in some for line in rounds[:8]]
            words = set()
            for thing in things:
                expected = slow_paper(problem, thing)
                self.assertIs(is_paper(problem, thing), expected, thing)
                if expected:
                    words.add(thing[0])
            self.assertEqual(words, {class_of(problem)})

    def test_papers_shown_for_other_problems(self):
        rng = random.Random(64)
        papers = [paper_of(problem) for problem in PROBLEMS]
        for problem in PROBLEMS:
            for paper in rng.sample(papers, 30):
                fits = slow_paper(problem, paper) if paper[0] != "loop" or paper[1] < problem.labels else False
                self.assertIs(is_paper(problem, paper), fits)
                self.assertTrue(not fits or paper[0] == class_of(problem))

    def test_one_number_bent(self):
        rng = random.Random(65)
        for problem in PROBLEMS + GREAT:
            paper = paper_of(problem)
            for _ in range(30):
                other = bent(paper, rng)
                self.assertIs(is_paper(problem, other), slow_paper(problem, other), other)

    def test_kinds(self):
        chess = ("stiff", ((0, 2, 0), (0, 2, 1)), (0, 1))
        self.assertIs(is_paper(brute.CHESS, chess), True)
        self.assertIs(is_paper(brute.CHESS, ("stiff", ((-5, 2, 1), (-5, 2, 0)), (1, 0) * 200)), True)
        wrong = (
            list(chess), ("stiff", [(0, 2, 0), (0, 2, 1)], (0, 1)), ("stiff", ([0, 2, 0], (0, 2, 1)), (0, 1)),
            ("stiff", ((0, 2, False), (0, 2, True)), (0, 1)), ("stiff", ((0, 2, 0), (0, 2, 1)), [0, 1]),
            ("stiff", ((0, 2, 0), (0, 2, 1)), (False, True)), ("stiff", ((0, 2, 0), (0, 2, 1)), (0, 1) * 201),
            ("stiff", ((0, 2, 0), (0, 2, 1)), ()), ("stiff", ((0, 2, 0), (0, 2, 1), (0, 2, 0)), (0, 1)),
            ("stiff", ((0, 2, 0), (0, 2, 1))), ("stiff", ((0, 2, 0), (0, 2, 1)), (0, 1), 0), ("stiff",), (),
            ("stiff", ((0, 4, 0), (0, 4, 1)), (0, 1)), ("stiff", ((0, 2.0, 0), (0, 2, 1)), (0, 1)),
            ("stiff", ((0, 1, 0), (0, 1, 0)), (0, 1)), ("STIFF",) + chess[1:], (Odd(), 1), ("loop", Odd()))
        for thing in STRANGE + wrong:
            self.assertIs(is_paper(brute.CHESS, thing), False, repr(thing)[:60])
        one = RingProblem(1, [(0, 0)])
        self.assertIs(is_paper(one, ("loop", 0)), True)
        for thing in (("loop", False), ("loop", 0.0), ("loop", 1), ("loop", -1), ("loop", None), ("loop", 0, 0)):
            self.assertIs(is_paper(one, thing), False)
        self.assertIs(is_paper(one, ("bending", (0,), (0, 0))), False)
        none = PathProblem(2, [(0, 1)], [0], [1])
        self.assertIs(is_paper(none, ("never", (-3, 10 ** 30))), True)
        for ranks in ((0, 0), (1, 0), (0,), (0, 1, 2), [0, 1], (0, True), (0, 1.0), None):
            self.assertIs(is_paper(none, ("never", ranks)), False)

    def test_labels_of_no_use_need_marks_as_well(self):
        problem = RingProblem(3, [(0, 1), (1, 0), (0, 2)])
        self.assertIs(is_paper(problem, ("stiff", ((0, 2, 0), (0, 2, 1), (0, 2, 0)), (0, 1))), True)
        self.assertIs(is_paper(problem, ("stiff", ((0, 2, 0), (0, 2, 1), (0, 1, 0)), (0, 1))), False)
        self.assertIs(is_paper(problem, ("stiff", ((0, 2, 0), (0, 2, 1), (0, 2, 2)), (0, 1))), False)
        path = PathProblem(2, [(0, 0)], [1], [1])
        self.assertIs(is_paper(path, ("loop", 0)), False)
        self.assertIs(is_paper(path, ("never", (0, 0))), True)

    def test_long_rounds(self):
        bending = ("bending", (0, 1) * 200, (0, 1) * 198 + (0, 1, 2))
        self.assertIs(is_paper(brute.TWO_AND_THREE, bending), True)
        self.assertIs(is_paper(brute.TWO_AND_THREE, ("bending", (0, 1) * 201, (0, 1, 2))), False)
        self.assertIs(is_paper(brute.TWO_AND_THREE, ("bending", (1, 0), (0, 1, 2))), False)
        self.assertIs(is_paper(brute.TWO_AND_THREE, ("bending", (0, 1), (0, 1, 0, 1))), False)

    def test_wrong_problems(self):
        for thing in STRANGE:
            self.assertIsNone(raised(BadProblem, is_paper, thing, None).part)
            self.assertIsNone(raised(BadProblem, paper_of, thing).part)


if __name__ == "__main__":
    unittest.main()
