"""Promises 64, 65 and 68: stars and stills, classes of problems on trees, labellings made by stars."""

import copy
import itertools
import random
import unittest

from roundwright.errors import BadProblem, BadTree
from roundwright.problems import RingProblem
from roundwright.starmakers import starred
from roundwright.treechains import is_hub, longest_chain, some_hub
from roundwright.treeproblems import TreeProblem, ball, first_wrong
from roundwright.treestars import is_star, is_still, some_star, some_still, tree_class
from tests.brute import STRANGE, raised
from tests.test_trees import all_rows, full, grown, random_problem, shuffled
from tests.test_treemakers import HUB, LATE, ONE, colours

TURNS = TreeProblem(2, 2, [(0, (1, 1)), (1, (0, 0))])


def rows_in(problem, some):
    return [(a, below) for a, below in problem.rows if a in some and set(below) <= set(some)]


def sets_of(rows, arms, family):
    """The sets of labels that stand above children with sets and marks of the family."""
    found = set()
    for chosen in itertools.product(sorted(family, key=lambda one: (sorted(one[0]), one[1])), repeat=arms):
        above = frozenset(a for a, below in rows if any(
            all(label in one[0] for label, one in zip(order, chosen)) for order in itertools.permutations(below)))
        found.add((above, any(one[1] for one in chosen)))
    return found


def slow_reaches(problem, most, still):
    """Whether there is a star (a still) of a height up to most."""
    for many in range(1, problem.labels + 1):
        for some in itertools.combinations(range(problem.labels), many):
            rows = rows_in(problem, some)
            wanted = {a for a, below in rows if a in below} if still else set()
            family = {(frozenset([a]), a in wanted) for a in some}
            for _ in range(most):
                family = sets_of(rows, problem.arms, family)
                if (frozenset(some), still) in family:
                    return True
    return False


def random_tree(rng, arms, size):
    return shuffled(rng, grown(rng, arms, size, rng.choice(("any", "deep", "late", "wide"))))[0]


class TestStars(unittest.TestCase):
    def test_against_all_families(self):
        rng = random.Random(641)
        seen = set()
        for _ in range(250):
            problem = random_problem(rng, 3, rng.choice((1, 2, 2)))
            star, still = some_star(problem), some_still(problem)
            self.assertEqual(star is not None, slow_reaches(problem, 6, False))
            self.assertEqual(still is not None, slow_reaches(problem, 6, True))
            if star is not None:
                self.assertIs(is_star(problem, star), True)
                self.assertTrue(any(is_hub(problem, part) for many in range(len(star[0])) for part in
                                    itertools.combinations(star[0], many + 1)))
            if still is not None:
                self.assertIs(is_still(problem, still), True)
            if problem.arms == 1:
                self.assertEqual(star is None, some_hub(problem) is None)
            seen.add(tree_class(problem)[0])
        self.assertEqual(seen, {"never", "root", "log", "fixed"} | (seen & {"star"}))

    def test_stars_against_all_leaves(self):
        rng = random.Random(642)
        stars = 0
        for _ in range(60):
            problem = random_problem(rng, 3, rng.choice((1, 2)))
            for height in (1, 2):
                for some in itertools.chain(*[itertools.combinations(range(problem.labels), n) for n in (1, 2)]):
                    for leaves in itertools.product(some, repeat=problem.arms ** height):
                        rows = rows_in(problem, some)
                        line = [frozenset([label]) for label in leaves]
                        while len(line) > 1 or height == 1 and line == [frozenset([leaves[0]])] and problem.arms == 1:
                            line = self.above(rows, problem.arms, line)
                            if problem.arms == 1:
                                break
                        if problem.arms == 1 and height == 2:
                            line = self.above(rows, 1, self.above(rows, 1, [frozenset([leaves[0]])]))
                        expected = line[0] == frozenset(some)
                        self.assertIs(is_star(problem, (some, height, leaves)), expected)
                        stars += expected
        self.assertGreater(stars, 20)

    def above(self, rows, arms, line):
        return [frozenset(a for a, below in rows if any(
            all(label in one for label, one in zip(order, line[at:at + arms]))
            for order in itertools.permutations(below))) for at in range(0, len(line), arms)]

    def test_greater_heights(self):
        problem = colours(3, 1)
        self.assertEqual(some_star(problem)[:2], ((0, 1, 2), 2))
        for height in (2, 3, 399, 400):
            self.assertTrue(is_star(problem, ((0, 1, 2), height, (0,))))
        self.assertFalse(is_star(problem, ((0, 1, 2), 1, (0,))))
        self.assertFalse(is_star(problem, ((0, 1, 2), 401, (0,))))
        pairs = [(0, (1,))] + [(at, ((at + 1) % 12,)) for at in range(1, 12)] + [(11, (1,))]
        late = TreeProblem(12, 1, pairs)
        some, height, leaves = some_star(late)
        self.assertGreater(height, 100)
        self.assertTrue(is_star(late, (some, 400, leaves)))
        two = colours(3, 2)
        some, height, leaves = some_star(two)
        # Each leaf goes on by a row.
        below = {a: [row[1] for row in two.rows if row[0] == a][0] for a in range(3)}
        for more in range(height, height + 6):
            self.assertTrue(is_star(two, (some, more, leaves)))
            leaves = tuple(label for leaf in leaves for label in below[leaf])

    def test_classes(self):
        self.assertEqual(tree_class(TURNS), ("root", 1))
        self.assertEqual(tree_class(HUB), ("log",))
        self.assertEqual(tree_class(TreeProblem(1, 3, [])), ("never",))
        self.assertEqual(tree_class(problem=ONE), ("fixed",))
        self.assertEqual(tree_class(colours(3, 2)), ("star",))
        self.assertEqual(tree_class(LATE)[0], "star")
        self.assertEqual(tree_class(TreeProblem(2, 1, [(0, (1,)), (1, (0,))])), ("root", 1))
        rows = [(0, (1, 1)), (0, (1, 2)), (1, (0, 0)), (2, (0, 3)), (2, (1, 3)), (3, (4, 4)), (4, (3, 3))]
        self.assertEqual(tree_class(TreeProblem(5, 2, rows)), ("root", 2))
        self.assertEqual(len(longest_chain(TreeProblem(5, 2, rows))), 3)
        full_12 = TreeProblem(12, 3, all_rows(12, 3))
        self.assertEqual(tree_class(full_12), ("fixed",))
        self.assertEqual(tree_class(colours(12, 3)), ("star",))
        ring_12 = TreeProblem(12, 3, [(a, ((a + 1) % 12,) * 3) for a in range(12)])
        self.assertEqual(tree_class(ring_12), ("root", 1))

    def test_wrong_values(self):
        star = some_star(colours(3, 2))
        row = (0, (0, 1))
        still = some_still(TreeProblem(2, 2, [(0, (0, 1)), (1, (0, 1))]))
        self.assertEqual(len(still), 2)
        some, height, leaves = star
        for thing in STRANGE + (list(star), (list(some), height, leaves), (some[::-1], height, leaves), star + (0,),
                                (some, True, leaves), (some, height, list(leaves)), (some, height, leaves + (0,)),
                                ((), height, leaves), (some, height, (True,) * len(leaves)), (some, 0, leaves[:1]),
                                (some, 400, leaves), ((0, 1, 3), height, leaves), (some, height + 0.0, leaves)):
            self.assertIs(is_star(colours(3, 2), thing), False)
        problem = TreeProblem(2, 2, [(0, (0, 1)), (1, (0, 1))])
        for thing in STRANGE + (list(still), still + (0,), (still[0], (True, (0, 1))), (still[0], (0, (0, 0))),
                                (still[0], [0, (0, 1)]), (None, row), (still[0], None), (still[0], (0, [0, 1]))):
            self.assertIs(is_still(problem, thing), False)
        self.assertIs(is_still(problem=problem, thing=still), True)
        for call in (some_star, some_still, tree_class):
            for thing in STRANGE + (RingProblem(1, []),):
                self.assertIsNone(raised(BadProblem, call, thing).part)


class TestStarred(unittest.TestCase):
    def test_right_on_drawn_trees(self):
        rng = random.Random(643)
        tried = 0
        while tried < 120:
            problem = random_problem(rng, 5, rng.randint(1, 3))
            star = some_star(problem)
            if star is None:
                raised(BadProblem, starred, problem, ((1, -1),))
                continue
            tried += 1
            tree = random_tree(rng, problem.arms, rng.choice((1, 7, 60, 400)))
            before = copy.deepcopy(tree)
            labels, rounds = starred(problem, tree)
            self.assertIsNone(first_wrong(problem, tree, labels))
            self.assertTrue(0 <= rounds <= 100 * star[1] ** 2)
            self.assertEqual(rounds, starred(problem, ((5, -1),))[1])
            self.assertEqual(tree, before)

    def test_great_trees(self):
        rng = random.Random(644)
        for problem in (colours(3, 1), colours(3, 2), colours(4, 3), LATE):
            for how in ("deep", "any", "late"):
                tree = grown(rng, problem.arms, 2500, how)
                self.assertIsNone(first_wrong(problem, tree, starred(problem, tree)[0]))
        self.assertIsNone(first_wrong(colours(3, 3), full(3, 7), starred(colours(3, 3), full(3, 7))[0]))

    def test_a_label_hangs_on_the_ball(self):
        # Another tree with the same ball: the house keeps what stands near, all else is new.
        rng = random.Random(645)
        checked = 0
        for problem in (colours(4, 1), colours(5, 2), TreeProblem(3, 1, [(0, (0,)), (0, (1,)), (1, (2,)), (2, (0,))])):
            rounds = starred(problem, ((1, -1),))[1]
            size = 5 * rounds
            names = rng.sample(range(1, 10 ** 9), 4 * size)
            tree = [(names[0], -1)]
            spine = [0]
            while len(tree) < size:
                top = spine[-1]
                for _ in range(problem.arms):
                    tree.append((names[len(tree)], top))
                spine.append(rng.choice(range(len(tree) - problem.arms, len(tree))))
            tree = tuple(tree)
            labels = starred(problem, tree)[0]
            for cut in (1, 5, rounds // 2, rounds + 7):
                other, places = [], {}
                parent = -1
                for step in range(rng.randint(1, 40)):
                    other.append((names[2 * size + 50 * cut % size + len(other)], parent))
                    parent = len(other) - 1
                    for _ in range(problem.arms - 1):
                        other.append((names[3 * size + len(other)], parent))
                for place, (name, above) in enumerate(tree):
                    if place == spine[cut] or above in places:
                        places[place] = len(other)
                        other.append((name, parent if place == spine[cut] else places[above]))
                new = starred(problem, tuple(other))[0]
                for place in spine[cut + rounds - 3:cut + rounds + 60]:
                    if place in places and ball(tree, place, rounds) == ball(tuple(other), places[place], rounds):
                        checked += 1
                        self.assertEqual(labels[place], new[places[place]])
        self.assertGreater(checked, 200)

    def test_wrong_values(self):
        for tree in STRANGE + (((1, -1), (2, 0)), ((1, 0),), [(1, -1)]):
            raised(BadTree, starred, colours(3, 2), tree)
        raised(BadTree, starred, HUB, None)
        self.assertEqual(raised(BadProblem, starred, HUB, ((1, -1),)).part, "star")
        self.assertEqual(raised(BadProblem, starred, problem=TURNS, tree=((1, -1),)).part, "star")


if __name__ == "__main__":
    unittest.main()
