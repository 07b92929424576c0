"""Promises 66 and 67: marks along lines, layers of trees, and labellings made by layers."""

import itertools
import random
import unittest

from roundwright.errors import BadNet, BadNumber, BadProblem, BadTree
from roundwright.freesets import free_from
from roundwright.spacing import spaced
from roundwright.treechains import longest_chain, some_hub
from roundwright.treelayers import layers
from roundwright.treemakers import labelled, plan
from roundwright.treeproblems import TreeProblem, ball, first_wrong, is_tree
from tests import brute
from tests.brute import STRANGE, raised
from tests.test_trees import all_rows, children, full, grown, random_problem, shuffled, tower


def colours(labels, arms):
    return TreeProblem(labels, arms, [(a, below) for a, below in all_rows(labels, arms) if a not in below])


HUB = TreeProblem(2, 2, [(0, (0, 1)), (1, (0, 0))])
ONE = TreeProblem(1, 1, [(0, (0,))])
LATE = TreeProblem(4, 1, [(0, (1,)), (1, (2,)), (2, (0,)), (2, (3,)), (3, (0,))])


def names_of(rng, size):
    return tuple(rng.sample(range(1, 10 ** 9 + 1), size))


class TestSpacing(unittest.TestCase):
    def check(self, names, gap):
        marks = spaced(names, gap)
        self.assertIsInstance(marks, tuple)
        if not names:
            self.assertEqual(marks, ())
            return marks
        self.assertEqual(marks[0], 0)
        for one, other in zip(marks, marks[1:]):
            self.assertTrue(gap <= other - one <= 2 * gap - 1)
        self.assertTrue(0 <= len(names) - 1 - marks[-1] < gap)
        return marks

    def test_gaps(self):
        rng = random.Random(951)
        for gap in (1, 2, 3, 4, 5, 8, 9, 17, 100, 512, 513, 1000):
            for size in (0, 1, 2, 3, gap - 1, gap, gap + 1, 2 * gap, 2 * gap + 1, 1000, 3000):
                self.check(names_of(rng, size), gap)
        for names in itertools.permutations(range(1, 7)):
            for gap in (1, 2, 3):
                self.check(names, gap)
        for names in (tuple(range(1, 2001)), tuple(range(2000, 0, -1)), tuple(range(1, 10 ** 9, 10 ** 6)),
                      tuple(2 ** (at % 29) + 2 ** 29 * (at > 28) for at in range(58))):
            for gap in (1, 2, 3, 7, 40, 1000):
                self.check(names, gap)
        self.assertEqual(self.check(names_of(rng, 50), 1), tuple(range(50)))

    def test_what_a_mark_hangs_on(self):
        # Names more than 30 gap ** 2 places away, and where the line begins and ends there, do not matter.
        rng = random.Random(952)
        for gap, size in ((1, 200), (2, 700), (3, 1500)):
            reach = 30 * gap ** 2
            for _ in range(12):
                names = names_of(rng, size)
                marks = self.check(names, gap)
                for place in rng.sample(range(size), 8):
                    low, high = max(0, place - reach), min(size, place + reach + 1)
                    kept = names[low:high]
                    fresh = [name for name in names_of(rng, 2 * size) if name not in kept]
                    ahead = rng.choice((low, rng.randint(1, size))) if low > 0 else 0
                    behind = rng.choice((size - high, rng.randint(1, size))) if high < size else 0
                    if low > 0:
                        ahead = max(1, ahead)
                    others = tuple(fresh[:ahead]) + kept + tuple(fresh[ahead:ahead + behind])
                    found = self.check(others, gap)
                    self.assertIs(place in marks, place - low + ahead in found)

    def test_wrong_values(self):
        for names in STRANGE + ((0,), (1, 1), (True,), [1, 2], (10 ** 9 + 1,), (1.0,), (1, None)):
            raised(BadNet, spaced, names, None)
        for gap in (0, 1001, True, None, 1.0):
            self.assertEqual(raised(BadNumber, spaced, (), gap).part, "gap")
        self.assertEqual(spaced(names=(), gap=1000), ())
        self.assertEqual(spaced((5,), 1000), (0,))
        self.assertEqual(len(spaced(tuple(range(1, 402)), 1)), 401)


def slow_layers(tree, rakes, far):
    below = children(tree)
    left, found, phase = set(range(len(tree))), {}, 0

    def take(group, layer):
        for place in group:
            found[place] = layer
            left.discard(place)

    while left:
        phase += 1
        for step in range(1, rakes + 1):
            take([place for place in left if not left & set(below[place])], (phase, step))
            if not left:
                break
        single = {place for place in left if len(left & set(below[place])) == 1}
        lines = []
        for place in single:
            if tree[place][1] in single:
                continue
            line = [place]
            while left & set(below[line[-1]]) & single:
                line += left & set(below[line[-1]])
            lines += line if len(line) >= far else []
        take(lines, (phase, rakes + 1))
    return tuple(found[place] for place in range(len(tree)))


def left_behind(told, phase):
    return sum(1 for layer in told if layer[0] > phase)


class TestLayers(unittest.TestCase):
    def test_against_sets(self):
        rng = random.Random(953)
        for arms in (1, 2, 3):
            for _ in range(40):
                tree = grown(rng, arms, rng.randint(1, 60), rng.choice(("any", "deep", "late", "wide")))
                tree = shuffled(rng, tree)[0]
                for rakes, far in ((1, 1), (1, 2), (2, 1), (3, 4), (rng.randint(1, 9), rng.randint(1, 9)), (10 ** 6, 10 ** 6)):
                    if rakes < 100:
                        self.assertEqual(layers(tree, rakes, far), slow_layers(tree, rakes, far))
                    else:
                        self.assertEqual(layers(tree, rakes, far), slow_layers(tree, 70, 70))

    def test_how_many_are_left(self):
        rng = random.Random(954)
        for arms in (1, 2, 3):
            for how in ("any", "deep", "late", "wide"):
                tree = grown(rng, arms, 1500, how)
                for rakes, far in ((1, 1), (1, 5), (4, 2), (10, 30)):
                    told = layers(tree, rakes, far)
                    for phase in range(1, max(told)[0] + 1):
                        before, behind = left_behind(told, phase - 1), left_behind(told, phase)
                        self.assertLessEqual(behind * (2 * far + rakes), 2 * far * before)
                        self.assertLess(behind, before)

    def test_by_hand(self):
        line = tuple((at + 1, at - 1) for at in range(5))
        self.assertEqual(layers(line, 1, 3), ((1, 2), (1, 2), (1, 2), (2, 1), (1, 1)))
        self.assertEqual(layers(line, 1, 4), ((5, 1), (4, 1), (3, 1), (2, 1), (1, 1)))
        self.assertEqual(layers(line, 5, 1), ((1, 5), (1, 4), (1, 3), (1, 2), (1, 1)))
        self.assertEqual(layers(((3, -1),), 1, 1), ((1, 1),))
        self.assertEqual(layers(full(2, 2), 1, 1), ((3, 1), (2, 1), (2, 1)) + ((1, 1),) * 4)
        long = tuple((at + 1, at - 1) for at in range(3000))
        self.assertEqual(max(layers(long, 1, 1000)), (2, 1))
        self.assertEqual(max(layers(long, 10 ** 6, 10 ** 6)), (1, 3000))
        self.assertEqual(max(layers(long, 1, 10 ** 6)), (3000, 1))

    def test_wrong_values(self):
        for thing in STRANGE + ((), ((1, -1), (2, 0), (3, 0), (4, 1))):
            raised(BadTree, layers, thing, None, None)
        for number in (0, 10 ** 6 + 1, True, None, 1.0):
            self.assertEqual(raised(BadNumber, layers, ((1, -1),), number, 0).part, "rakes")
            self.assertEqual(raised(BadNumber, layers, tree=((1, -1),), rakes=1, far=number).part, "far")


def problems_with_chains(seed, many):
    rng = random.Random(seed)
    found = []
    while len(found) < many:
        problem = random_problem(rng, rng.randint(1, 4), rng.randint(1, 3))
        if longest_chain(problem) != ():
            found.append(problem)
    return found


def turned_tower(many):
    """A tower whose labels are numbered the other way: the least ones belong to the first set of a chain alone."""
    last = 2 * many - 1
    rows = [(last - a, tuple(sorted(last - b for b in below))) for a, below in tower(many).rows]
    return TreeProblem(2 * many, 2, rows)


MADE = [colours(3, 1), colours(3, 2), colours(4, 3), HUB, ONE, LATE] + [tower(many) for many in (1, 2, 3, 6)] + [
    turned_tower(many) for many in (2, 3, 4)]


def comb(rng, arms, size):
    """A tree with long lines of houses all of whose children but one are leaves."""
    parents, tip = [-1], 0
    while len(parents) < size:
        parents += [tip] * arms
        tip = len(parents) - 1 if rng.random() < 0.97 else len(parents) - rng.randint(1, arms)
    return tuple(zip(names_of(rng, len(parents)), parents))


def trees_for(rng, arms):
    found = [((rng.randint(1, 10 ** 9), -1),)]
    for size in (2, 5, 20, 100, 400):
        for how in ("any", "deep", "late", "wide"):
            found.append(shuffled(rng, grown(rng, arms, size, how))[0])
    return found + [comb(rng, arms, 700), full(arms, 4)]


class TestPlans(unittest.TestCase):
    def test_plans(self):
        for problem in MADE + problems_with_chains(955, 30):
            hub, chain = some_hub(problem), longest_chain(problem)
            if hub is not None:
                steps = [free_from(problem, hub, hub)]
            else:
                steps = [free_from(problem, chain[at - 1], chain[at]) for at in range(1, len(chain), 2)]
            for size in (1, 2, 3, 10, 999, 1000, 1001, 10 ** 6, 10 ** 9):
                phases, rakes, far = plan(problem, size)
                self.assertTrue(max([1] + steps) <= far <= max(1, problem.labels ** 2))
                if hub is not None:
                    self.assertEqual(rakes, 1)
                    self.assertLess(size * (2 * far) ** phases, (2 * far + 1) ** phases)
                    self.assertGreaterEqual(size * (2 * far) ** (phases - 1), (2 * far + 1) ** (phases - 1))
                    continue
                self.assertEqual(phases, (len(chain) + 1) // 2)
                for many in (rakes, rakes - 1):
                    enough = size * (2 * far) ** (phases - 1) <= many * (2 * far + many) ** (phases - 1)
                    self.assertIs(enough, many == rakes)

    def test_the_bounds_of_size(self):
        # Two colours: as many rakes as houses. One label: the least p with size * 2 ** p below 3 ** p.
        self.assertEqual(plan(tower(1), 10 ** 9), (1, 10 ** 9, 1))
        self.assertEqual(plan(ONE, 1), (1, 1, 1))
        self.assertEqual([plan(ONE, size)[0] for size in (1, 2, 3, 4, 5, 6)], [1, 2, 3, 4, 4, 5])
        late = TreeProblem(12, 1, [(a, (b,)) for a, b in brute.WIELANDT_12.pairs])
        self.assertEqual(plan(late, 10 ** 9)[1:], (1, 122))

    def test_wrong_values(self):
        never = TreeProblem(2, 1, [(0, (1,))])
        for thing in STRANGE:
            self.assertIsNone(raised(BadProblem, plan, thing, None).part)
            self.assertIsNone(raised(BadProblem, labelled, thing, None).part)
            raised(BadTree, labelled, never, thing)
        for size in (0, 10 ** 9 + 1, True, None, 1.0):
            self.assertEqual(raised(BadNumber, plan, never, size).part, "size")
        self.assertEqual(raised(BadProblem, plan, problem=never, size=5).part, "never")
        self.assertEqual(raised(BadProblem, labelled, problem=never, tree=((1, -1),)).part, "never")
        raised(BadTree, labelled, HUB, ((1, -1), (2, 0)))


class TestLabelled(unittest.TestCase):
    def check(self, problem, tree):
        labels, rounds = labelled(problem, tree)
        self.assertIsNone(first_wrong(problem, tree, labels))
        self.assertEqual(len(rounds), len(tree))
        phases, rakes, far = plan(problem, len(tree))
        self.assertLessEqual(max(rounds), phases * (2 * rakes + 8 * far + 8) + 40 * far ** 2)
        self.assertGreaterEqual(min(rounds), 0)
        told = layers(tree, rakes, far)
        self.assertLessEqual(max(told)[0], phases)
        return labels, rounds, any(step > rakes for _, step in told)

    def test_right_within_the_rounds(self):
        rng = random.Random(956)
        lines = 0
        for problem in MADE + problems_with_chains(957, 60):
            for tree in trees_for(rng, problem.arms):
                lines += self.check(problem, tree)[2]
        self.assertGreater(lines, 200)

    def test_limits(self):
        rng = random.Random(958)
        whole = TreeProblem(12, 3, all_rows(12, 3))
        late = TreeProblem(12, 1, [(a, (b,)) for a, b in brute.WIELANDT_12.pairs])
        for problem in (whole, late, tower(6), colours(12, 3), colours(3, 1)):
            for how in ("any", "deep", "late"):
                self.check(problem, grown(rng, problem.arms, 3000, how))
        for problem in (tower(2), turned_tower(2), turned_tower(3)):
            self.check(problem, comb(rng, 2, 6000))

    def test_lines_between_later_phases(self):
        # Combs whose teeth are lines with bushes at their ends: phase by phase lines stand below later houses.
        rng = random.Random(962)
        phases = set()
        for problem in (turned_tower(2), turned_tower(3), turned_tower(4), tower(3)):
            for _ in range(6):
                tree = self.bushy(rng, rng.choice((2, 3)), 12)
                labels, _, _ = self.check(problem, tree)
                told = layers(tree, *plan(problem, len(tree))[1:])
                phases |= {layer[0] for layer in told}
                self.assertTrue(set(labels) <= set(range(problem.labels)))
        self.assertIn(2, phases)

    def bushy(self, rng, depth, long):
        """A tree of two arms: lines of some length, each with a leaf beside each house and two such trees at its end."""
        parents = [-1]

        def grow(tip, deep):
            for _ in range(long * deep * deep):
                parents.extend([tip, tip])
                tip = len(parents) - 1
            if deep == 0:
                for _ in range(4):
                    parents.extend([tip, tip])
                    tip = len(parents) - 1
                return
            parents.extend([tip, tip])
            first = len(parents) - 2
            grow(first, deep - 1)
            grow(first + 1, deep - 1)

        grow(0, depth)
        return shuffled(rng, tuple(zip(names_of(rng, len(parents)), parents)))[0]

    def test_names_and_places(self):
        # Told in another sequence the houses have the same labels and rounds; handed in trees do not change.
        rng = random.Random(959)
        for problem in MADE:
            tree = comb(rng, problem.arms, 300)
            labels, rounds, _ = self.check(problem, tree)
            other, places = shuffled(rng, tree)
            again, needs, _ = self.check(problem, other)
            for at in range(len(tree)):
                self.assertEqual((labels[at], rounds[at]), (again[places[at]], needs[places[at]]))

    def test_the_same_in_each_tree_with_the_same_ball(self):
        rng = random.Random(960)
        checked = 0
        for problem in MADE + problems_with_chains(961, 12):
            for size in (60, 300, 900):
                tree = comb(rng, problem.arms, size) if rng.random() < 0.7 else grown(
                    rng, problem.arms, size, rng.choice(("any", "deep", "late")))
                labels, rounds, _ = self.check(problem, tree)
                for place in rng.sample(range(len(tree)), 5):
                    found = self.with_the_same_ball(rng, tree, place, rounds[place], problem.arms)
                    if found is None:
                        continue
                    other, there = found
                    again, needs, _ = self.check(problem, other)
                    self.assertEqual((again[there], needs[there]), (labels[place], rounds[place]))
                    checked += 1
        self.assertGreater(checked, 60)

    def with_the_same_ball(self, rng, tree, place, rounds, arms):
        """Another tree of as many houses in which a house has the same ball, and its place; None without another one."""
        near = {name for name, _, _ in ball(tree, place, rounds)[1]}
        inside = {at for at, (name, _) in enumerate(tree) if name in near}
        below = dict(enumerate(children(tree)))
        above = {at: parent for at, (_, parent) in enumerate(tree)}
        root = 0
        if len(inside) == len(tree):
            return None
        for _ in range(rng.choice((0, 1, 10, 60))):
            families = [at for at in below if at not in inside and below[at]
                        and not any(below[child] or child in inside for child in below[at])]
            if not families:
                break
            at = rng.choice(families)
            for child in below[at]:
                del below[child], above[child]
            below[at] = []
            fresh = [max(below) + 1 + step for step in range(arms)]
            if root not in inside and rng.random() < 0.2:
                below[fresh[0]], above[fresh[0]], above[root] = [root] + fresh[1:], -1, fresh[0]
                root, parent, fresh = fresh[0], fresh[0], fresh[1:]
            else:
                parent = rng.choice([leaf for leaf in below if leaf not in inside and not below[leaf]])
                below[parent] = fresh
            for child in fresh:
                below[child], above[child] = [], parent
        others = iter([name for name in names_of(rng, 3 * len(tree)) if name not in near])
        told, places, edge = [], {-1: -1}, [root]
        while edge:
            at = edge.pop(rng.randrange(len(edge)))
            places[at] = len(told)
            told.append((tree[at][0] if at in inside else next(others), places[above[at]]))
            edge += below[at]
        other = tuple(told)
        self.assertIs(is_tree(arms, other), True)
        self.assertEqual(len(other), len(tree))
        self.assertEqual(ball(other, places[place], rounds), ball(tree, place, rounds))
        return other, places[place]


if __name__ == "__main__":
    unittest.main()
