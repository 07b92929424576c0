"""Promise 69: for each program a tree on which it is not right, if there is no star."""

import collections
import itertools
import random
import unittest

from roundwright.against import against
from roundwright.errors import BadNumber, BadProblem
from roundwright.fullfoes import FullFoe
from roundwright.linefoes import LineFoe
from roundwright.treechains import longest_chain, some_hub
from roundwright.treeproblems import TreeProblem, ball_of, children_of, first_wrong, is_tree, least_right
from roundwright.treestars import tree_class
from tests.brute import STRANGE, raised
from tests.test_trees import random_problem
from tests.test_treemakers import HUB, colours
from tests.test_treestars import TURNS

TWICE = TreeProblem(5, 2, [(0, (1, 1)), (0, (1, 2)), (1, (0, 0)), (2, (0, 3)), (2, (1, 3)), (3, (4, 4)), (4, (3, 3))])


def most_houses(problem, rounds):
    if some_hub(problem) is not None:
        return 8 * (rounds + 1) ** 2 * problem.arms ** (3 * rounds + 2)
    many = (len(longest_chain(problem)) + 1) // 2
    whole = (problem.labels + 1) * problem.arms ** problem.labels
    return 4 * whole * (whole * problem.arms * (2 * rounds + 3)) ** many


def tree_seen(told):
    """The tree of a ball and the places of the names, None if it does not show the whole tree."""
    below = collections.defaultdict(list)
    for name, above, _ in told[1]:
        below[above].append(name)
    if -1 in below or any(len(below[name]) != many for name, _, many in told[1]):
        return None
    tree, places = [(below[0][0], -1)], {below[0][0]: 0}
    for name, _ in tree:
        for child in sorted(below[name]):
            places[child] = len(tree)
            tree.append((child, places[name]))
    return tuple(tree), places


def seeing(problem, otherwise):
    """A program that is right wherever the whole tree is seen."""
    known = {}

    def program(told):
        if told[1] not in known:
            seen = tree_seen(told)
            known[told[1]] = None if seen is None else (least_right(problem, seen[0]), seen[1])
        if known[told[1]] is None or known[told[1]][0] is None:
            return otherwise(told)
        labels, places = known[told[1]]
        return labels[places[told[0]]]
    return program


def fitting(rng, problem, tree, below, fixed):
    """A right labelling with some labels fixed, drawn house by house; None without one."""
    orders = collections.defaultdict(set)
    for label, group in problem.rows:
        orders[label].update(itertools.permutations(group))

    def fits(order, place):
        return all(label in able[child] for label, child in zip(order, below[place]))
    able = [None] * len(tree)
    for place in range(len(tree) - 1, -1, -1):
        able[place] = set(range(problem.labels)) if fixed[place] is None else {fixed[place]}
        if below[place]:
            able[place] = {one for one in able[place] if any(fits(order, place) for order in orders[one])}
        if not able[place]:
            return None
    labels = [rng.choice(sorted(able[0]))] + [None] * (len(tree) - 1)
    for place in range(len(tree)):
        if below[place]:
            order = rng.choice([order for order in sorted(orders[labels[place]]) if fits(order, place)])
            for label, child in zip(order, below[place]):
                labels[child] = label
    return labels


def cunning(rng, foe, method):
    """Balls with labels, told trial by trial so that each trial is right as long as this can be."""
    known = {}
    old = getattr(foe, method)

    def told_first(trial):
        tree = tuple(trial.tree)
        below = children_of(tree)
        balls = [ball_of(tree, below, place, foe.rounds) for place in range(len(tree))]
        labels = fitting(rng, foe.problem, tree, below, [known.get(told) for told in balls])
        for told, label in zip(balls, labels or ()):
            known[told] = label
        return old(trial)
    setattr(foe, method, told_first)
    foe.program = lambda told: known.get(told, 0)
    return known


class TestAgainst(unittest.TestCase):
    def check(self, problem, program, rounds):
        tree = against(problem, program, rounds)
        self.assertTrue(is_tree(problem.arms, tree))
        below = children_of(tree)
        labels = tuple(program(ball_of(tree, below, place, rounds)) for place in range(len(tree)))
        self.assertIsNotNone(first_wrong(problem, tree, labels))
        self.assertLessEqual(len(tree), most_houses(problem, rounds))
        return tree

    def programs(self, problem):
        labels = problem.labels
        plain = [lambda told: 0, lambda told: told[0] % labels, lambda told: len(told[1]) % labels,
                 lambda told: max(told[1])[0] % labels, lambda told: sum(one[2] for one in told[1]) % labels,
                 lambda told: (told[0] > 20) % labels]
        return plain + [seeing(problem, program) for program in plain]

    def test_drawn_problems(self):
        rng = random.Random(651)
        classes = collections.Counter()
        while sum(classes.values()) < 60:
            problem = random_problem(rng, 4, rng.randint(1, 3))
            told = tree_class(problem)
            if told[0] in ("star", "fixed") or classes[told] > 20:
                continue
            classes[told] += 1
            for program in self.programs(problem):
                for rounds in (0, 1, 2):
                    self.check(problem, program, rounds)
        self.assertTrue({("never",), ("root", 1), ("log",)} <= set(classes))

    def test_many_rounds(self):
        for problem in (TURNS, HUB, TWICE, TreeProblem(2, 1, [(0, (1,)), (1, (0,))])):
            for program in self.programs(problem):
                for rounds in (5, 40):
                    self.check(problem, program, rounds)
        line = TreeProblem(12, 3, [(a, (a + 1,) * 3) for a in range(11)])
        self.assertLess(len(self.check(line, lambda told: 0, 40)), 100)
        ring = TreeProblem(12, 3, [(a, ((a + 1) % 12,) * 3) for a in range(12)])
        for program in self.programs(ring):
            self.check(ring, program, 40)

    def test_programs_that_are_right_as_long_as_can_be(self):
        rng = random.Random(652)
        problems = [TURNS, TWICE, TWICE, TWICE]
        while len(problems) < 14:
            problem = random_problem(rng, 5, rng.randint(1, 3))
            if tree_class(problem)[0] == "root":
                problems.append(problem)
        for problem in problems:
            for rounds in (0, 1, 2):
                foe = LineFoe(problem, None, rounds)
                known = cunning(rng, foe, "is_wrong")
                trial = foe.wrong_trial(100)
                self.assertLessEqual(len(trial.tree), most_houses(problem, rounds))
                tree = self.check(problem, lambda told: known.get(told, 0), rounds)
                self.assertEqual(tree, tuple(trial.tree))

    def test_programs_that_are_right_on_full_trees_as_long_as_can_be(self):
        rng = random.Random(653)
        problems = [HUB]
        while len(problems) < 4:
            problem = random_problem(rng, 4, rng.randint(2, 3))
            if tree_class(problem)[0] == "log":
                problems.append(problem)
        for problem in problems:
            for rounds in (0, 1):
                foe = FullFoe(problem, None, rounds, rounds, 0)
                known = cunning(rng, foe, "top_answers")
                trial = foe.wrong_trial()
                self.assertIsNotNone(trial)
                self.assertLessEqual(len(trial.tree), most_houses(problem, rounds))
                self.check(problem, lambda told: known.get(told, 0), rounds)

    def test_programs_that_are_right_on_full_trees(self):
        # Labels along the way to the nearest leaf are right for HUB wherever one is near enough to be seen.
        def leafy(told):
            below = collections.defaultdict(list)
            above = {name: up for name, up, _ in told[1]}
            for name, up, _ in told[1]:
                below[up].append(name)
            many = {name: number for name, _, number in told[1]}

            def near(name):
                return 0 if many[name] == 0 else 1 + min([near(child) for child in below[name]] + [10 ** 6])
            name, steps = told[0], 0
            while above[name] > 0:
                beside = min(below[above[name]], key=lambda one: (near(one), one))
                if beside != name:
                    break
                name, steps = above[name], steps + 1
            return steps % 2
        for rounds in (0, 1, 2, 3):
            self.check(HUB, leafy, rounds)

    def test_never(self):
        self.check(TreeProblem(1, 3, []), lambda told: 0, 40)
        self.check(TreeProblem(3, 2, [(0, (1, 1)), (1, (2, 2))]), lambda told: 0, 0)

    def test_wrong_values(self):
        for rounds in (-1, 41, True, None, 1.0):
            self.assertEqual(raised(BadNumber, against, TURNS, None, rounds).part, "rounds")
        for rounds in (0, None):
            self.assertEqual(raised(BadProblem, against, colours(3, 2), None, rounds).part, "star")
        for thing in STRANGE:
            self.assertIsNone(raised(BadProblem, against, thing, None, None).part)
        self.assertTrue(against(problem=TURNS, program=lambda told: 1, rounds=0))


if __name__ == "__main__":
    unittest.main()
