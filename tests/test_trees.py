"""Promises 60 to 63: problems on trees, trimmed sets, free sets, chains and hubs."""

import itertools
import math
import random
import unittest

from roundwright.errors import BadLabelling, BadLabels, BadNumber, BadProblem, BadTree
from roundwright.freesets import free_from, free_sets, walk
from roundwright.treechains import is_chain, is_hub, longest_chain, some_hub
from roundwright.treeproblems import TreeProblem, ball, first_wrong, how_many_right, is_tree, least_right
from roundwright.trims import roots, steady, trimmed
from tests import brute
from tests.brute import STRANGE, raised


def all_rows(labels, arms):
    return [(a, below) for a in range(labels) for below in itertools.combinations_with_replacement(range(labels), arms)]


def random_problem(rng, labels, arms, share=None):
    share = share or rng.choice((0.1, 0.2, 0.4, 0.7))
    return TreeProblem(labels, arms, brute.some_of(rng, all_rows(labels, arms), share))


def random_problems(seed, many, most=3):
    rng = random.Random(seed)
    return [random_problem(rng, rng.randint(1, most), rng.randint(1, 3)) for _ in range(many)]


def grown(rng, arms, size, how):
    """A tree of about so many houses; how tells which leaf is given children next."""
    parents, leaves = [-1], [0]
    while len(parents) < size:
        at = {"any": rng.randrange(len(leaves)), "deep": len(leaves) - 1, "wide": 0,
              "late": len(leaves) - 1 - rng.randrange(min(len(leaves), arms + 1))}[how]
        parent = leaves.pop(at)
        for _ in range(arms):
            leaves.append(len(parents))
            parents.append(parent)
    return tuple(zip(rng.sample(range(1, 10 ** 9 + 1), len(parents)), parents))


def shuffled(rng, tree):
    """The same tree, its houses told in another sequence, parents still ahead."""
    below = {}
    for at, (_, parent) in enumerate(tree):
        below.setdefault(parent, []).append(at)
    places, told, edge = {}, [], [0]
    while edge:
        at = edge.pop(rng.randrange(len(edge)))
        places[at] = len(told)
        told.append((tree[at][0], places.get(tree[at][1], -1)))
        edge += below.get(at, [])
    return tuple(told), places


def full(arms, height):
    parents, edge = [-1], [0]
    for _ in range(height):
        edge = [len(parents) + at for at in range(arms * len(edge))]
        parents += [edge[0] - len(edge) // arms + at // arms for at in range(len(edge))]
    return tuple((at + 1, parent) for at, parent in enumerate(parents))


def children(tree):
    return [[at for at, (_, parent) in enumerate(tree) if parent == place] for place in range(len(tree))]


def slow_wrong(problem, tree, labelling):
    for place, below in enumerate(children(tree)):
        if below and (labelling[place], tuple(sorted(labelling[at] for at in below))) not in problem.rows:
            return place
    return None


def small_trees(seed, arms):
    rng = random.Random(seed)
    found = [((7, -1),)]
    for size in (2, 4, 6, 7):
        for how in ("any", "deep", "wide", "late"):
            tree = grown(rng, arms, size, how)
            if len(tree) <= 8:
                found += [tree, shuffled(rng, tree)[0]]
    return found


def tower(many):
    """A problem whose longest chain has so many sets: two colours of each level, that may stand below the first ones."""
    rows = []
    for level in range(many):
        one = 2 * level
        rows += [(one, (one + 1, one + 1)), (one + 1, (one, one))]
        if level + 1 < many:
            rows.append((one, (0, one + 2)))
    return TreeProblem(2 * many, 2, rows)


class TestTreeProblems(unittest.TestCase):
    def test_attributes_and_equality(self):
        rows = [(1, (0, 0)), (0, (0, 1)), (0, (1, 1))]
        problem = TreeProblem(labels=2, arms=2, rows=rows)
        rows.pop()
        self.assertEqual((problem.labels, problem.arms), (2, 2))
        self.assertEqual(problem.rows, ((0, (0, 1)), (0, (1, 1)), (1, (0, 0))))
        self.assertEqual(problem, TreeProblem(2, 2, problem.rows))
        for other in (TreeProblem(3, 2, problem.rows), TreeProblem(2, 2, rows), TreeProblem(2, 1, []), None, rows):
            self.assertNotEqual(problem, other)
        self.assertEqual(len(TreeProblem(12, 3, all_rows(12, 3)).rows), 4368)

    def test_wrong_parts(self):
        for labels in (0, 13, True, None, 1.0):
            self.assertEqual(raised(BadProblem, TreeProblem, labels, 0, None).part, "labels")
        for arms in (0, 4, True, None, 1.0):
            self.assertEqual(raised(BadProblem, TreeProblem, 2, arms, None).part, "arms")
        for rows in (None, 3, "ab", [None], [(0,)], [(0, (0,))], [(0, (0, 0, 0))], [(0, (1, 0))], [(0, (0, 2))], [(2, (0, 0))],
                     [(0, [0, 0])], [[0, (0, 0)]], [(True, (0, 0))], [(0, (0, True))], [(0, (0, 0.0))], [(0, (-1, 0))],
                     [(0, (0, 0)), (0, (0, 0))], [(0, (0, 0), 0)], {(0, (0, 0))}, [(0, 0)]):
            self.assertEqual(raised(BadProblem, TreeProblem, 2, 2, rows).part, "rows")

    def test_trees(self):
        for arms in (1, 2, 3):
            for tree in small_trees(911, arms) + [full(arms, 4)]:
                for other in (1, 2, 3):
                    self.assertIs(is_tree(other, tree), other == arms or len(tree) == 1)
        self.assertIs(is_tree(2, ((5, -1), (4, 0), (3, 0), (2, 2), (1, 2))), True)
        self.assertIs(is_tree(2, ((5, -1), (4, 0), (3, 0), (2, 1), (1, 2))), False)
        self.assertIs(is_tree(1, tuple((at + 1, at - 1) for at in range(5000))), True)
        for thing in STRANGE + ((), ((1, 0),), ((1, -2),), ((0, -1),), ((10 ** 9 + 1, -1),), ((True, -1),), ((1, -1.0),),
                                ((1, None),), [(1, -1)], ([1, -1],), ((1, -1, 0),), ((1, -1), (1, 0)), ((1, -1), (2, 1)),
                                ((1, -1), (2, -1)), ((1, -1), (2, 2)), ((1, -1), (2, False)), (1, -1),
                                ((1, -1), (2, 0), (3, 2)), ((1, -1), (2, 2), (3, 0))):
            self.assertIs(is_tree(1, thing), False)
        for arms in (0, 4, True, None, 1.0):
            self.assertEqual(raised(BadNumber, is_tree, arms, None).part, "arms")

    def test_labellings_against_all(self):
        rng = random.Random(912)
        for problem in random_problems(913, 60, 3):
            for tree in rng.sample(small_trees(rng.random(), problem.arms), 5):
                if problem.labels ** len(tree) > 3000:
                    continue
                right = [line for line in itertools.product(range(problem.labels), repeat=len(tree))
                         if slow_wrong(problem, tree, line) is None]
                self.assertEqual(how_many_right(problem, tree), len(right))
                self.assertEqual(least_right(problem, tree), min(right, default=None))
                for _ in range(10):
                    line = tuple(rng.randrange(problem.labels) for _ in tree)
                    self.assertEqual(first_wrong(problem, tree, line), slow_wrong(problem, tree, line))

    def test_limits(self):
        rng = random.Random(914)
        for arms in (1, 2, 3):
            whole = TreeProblem(12, arms, all_rows(12, arms))
            for how in ("any", "deep", "wide"):
                tree = grown(rng, arms, 1200, how)
                self.assertEqual(how_many_right(whole, tree), 12 ** len(tree))
                self.assertEqual(least_right(whole, tree), (0,) * len(tree))
                self.assertIsNone(first_wrong(whole, tree, (11,) * len(tree)))
            two = TreeProblem(2, arms, [(0, (1,) * arms), (1, (0,) * arms)])
            tree = shuffled(rng, grown(rng, arms, 3000, "late"))[0]
            self.assertEqual(how_many_right(two, tree), 2)
            self.assertEqual(first_wrong(two, tree, least_right(two, tree)), None)
            last = least_right(two, tree)[:-1] + (1 - least_right(two, tree)[-1],)
            self.assertEqual(first_wrong(two, tree, last), tree[-1][1])

    def test_balls(self):
        rng = random.Random(915)
        for arms in (1, 2, 3):
            for tree in small_trees(916, arms) + [grown(rng, arms, 40, "any")]:
                tree = shuffled(rng, tree)[0]
                below = children(tree)
                near = [[0 if at == by else 99 for by in range(len(tree))] for at in range(len(tree))]
                for _ in range(12):
                    for at, (_, parent) in enumerate(tree):
                        for by in range(len(tree)):
                            for one, other in ((at, parent), (parent, at)):
                                if parent >= 0:
                                    near[one][by] = min(near[one][by], near[other][by] + 1)
                for place in rng.sample(range(len(tree)), min(6, len(tree))):
                    for rounds in (0, 1, 2, 3, 10 ** 6):
                        held = [at for at in range(len(tree)) if near[place][at] <= rounds]
                        triples = sorted((tree[at][0], 0 if tree[at][1] < 0 else tree[tree[at][1]][0]
                                          if tree[at][1] in held else -1, len(below[at])) for at in held)
                        self.assertEqual(ball(tree, place, rounds), (tree[place][0], tuple(triples)))
        line = tuple((at + 1, at - 1) for at in range(3000))
        self.assertEqual(ball(line, 1500, 1), (1501, ((1500, -1, 1), (1501, 1500, 1), (1502, 1501, 1))))
        self.assertEqual(len(ball(line, 1500, 1000)[1]), 2001)

    def test_wrong_values(self):
        problem = TreeProblem(2, 2, [(0, (0, 0))])
        tree = ((5, -1), (4, 0), (3, 0))
        for thing in STRANGE + (brute.CHESS,):
            for call, many in ((first_wrong, 2), (how_many_right, 1), (least_right, 1), (roots, 2), (trimmed, 1),
                               (steady, 1), (walk, 4), (free_from, 2), (free_sets, 1), (is_chain, 1), (is_hub, 1),
                               (longest_chain, 0), (some_hub, 0)):
                self.assertIsNone(raised(BadProblem, call, thing, *[None] * many).part)
        for thing in STRANGE + ((), ((1, -1), (2, 0)), [(1, -1)], ((1, -1), (2, 0), (3, 0), (4, 0))):
            raised(BadTree, first_wrong, problem, thing, None)
            raised(BadTree, how_many_right, problem, thing)
            raised(BadTree, least_right, problem, thing)
        for thing in STRANGE + ((), ((1, -1), (2, 0), (3, 0), (4, 1)), tuple((at, 0 if at > 1 else -1) for at in range(1, 6))):
            raised(BadTree, ball, thing, None, None)
        for labelling in STRANGE + ((0, 0), (0, 0, 2), (0, 0, -1), (0, 0, True), (0, 0, 0, 0), [0, 0, 0], (0, 0, None)):
            raised(BadLabelling, first_wrong, problem, tree, labelling)
        for place in (-1, 3, True, None, 0.0):
            self.assertEqual(raised(BadNumber, ball, tree, place, -1).part, "place")
        for rounds in (-1, 10 ** 6 + 1, True, None, 0.0):
            self.assertEqual(raised(BadNumber, ball, tree, 0, rounds).part, "rounds")


def slow_roots(problem, some, height):
    """The labels that the roots of full trees can bear, told by all labellings."""
    tree = full(problem.arms, height)
    return tuple(sorted({line[0] for line in itertools.product(sorted(some), repeat=len(tree))
                         if slow_wrong(problem, tree, line) is None}))


def sets_of(labels):
    return [group for size in range(labels + 1) for group in itertools.combinations(range(labels), size)]


class TestTrims(unittest.TestCase):
    def test_roots_against_all_labellings(self):
        for problem in random_problems(921, 60, 3):
            for some in sets_of(problem.labels):
                for height in range(4 if problem.arms == 1 else 3 if problem.arms == 2 else 2):
                    if len(some) ** len(full(problem.arms, height)) <= 3000:
                        self.assertEqual(roots(problem, some[::-1], height), slow_roots(problem, some, height))

    def test_trimmed_and_steady(self):
        for problem in random_problems(922, 80, 4) + [tower(3)]:
            for some in sets_of(problem.labels)[-20:]:
                line = [roots(problem, list(some), height) for height in range(15)]
                self.assertEqual(trimmed(problem, some), line[-1])
                self.assertEqual(steady(problem, some), line.index(line[-1]))
                self.assertEqual(roots(problem, some, 10 ** 6), line[-1])
                self.assertEqual(roots(problem, some, 0), some)

    def test_each_tree_exactly_if(self):
        rng = random.Random(923)
        for problem in random_problems(924, 60, 3):
            every = tuple(range(problem.labels))
            height = steady(problem, every)
            trees = small_trees(rng.random(), problem.arms) + [
                grown(rng, problem.arms, 30, how) for how in ("any", "deep", "wide", "late")]
            if trimmed(problem, every):
                self.assertTrue(all(least_right(problem, tree) is not None for tree in trees))
            elif problem.arms ** height < 2000:
                self.assertIsNone(least_right(problem, full(problem.arms, height)))
                self.assertTrue(all(least_right(problem, full(problem.arms, less)) for less in range(height)))
                for tree in trees:
                    depths = []
                    for _, parent in tree:
                        depths.append(depths[parent] + 1 if parent >= 0 else 0)
                    if max(depths) < height:
                        self.assertIsNotNone(least_right(problem, tree))

    def test_wrong_values(self):
        problem = TreeProblem(2, 1, [(0, (1,))])
        for some in (None, 3, "ab", [2], [-1], [True], [0.0], [0, 0], {0}, [None], [(0,)]):
            raised(BadLabels, roots, problem, some, None)
            raised(BadLabels, trimmed, problem, some)
            raised(BadLabels, steady, problem, some)
            raised(BadLabels, walk, problem, some, None, None, None)
            raised(BadLabels, free_from, problem, some, None)
            raised(BadLabels, free_from, problem, [0], some)
            raised(BadLabels, free_sets, problem, some)
        for height in (-1, 10 ** 6 + 1, True, None, 1.0):
            self.assertEqual(raised(BadNumber, roots, problem, [0], height).part, "height")
        self.assertEqual((roots(problem, [], 5), trimmed(problem, ()), steady(problem, [])), ((), (), 0))
        some = [1, 0]
        self.assertEqual(roots(problem, some, 1), (0,))
        self.assertEqual(some, [1, 0])


def slow_steps(problem, some):
    return {(a, b) for a, below in problem.rows for b in below if {a, *below} <= set(some)}


def slow_walks(problem, some, steps):
    held = [(label,) for label in sorted(some)]
    pairs = slow_steps(problem, some)
    for _ in range(steps):
        held = [line + (label,) for line in held for label in sorted(some) if (line[-1], label) in pairs]
    return held


def slow_joined(problem, some, most):
    """For each number of steps up to most the pairs of labels that walks join."""
    pairs = slow_steps(problem, some)
    found = [{(label, label) for label in some}]
    for _ in range(most):
        found.append({(one, other) for one, last in found[-1] for first, other in pairs if last == first})
    return found


def slow_free_from(problem, some, few):
    if not few or not set(few) <= set(some):
        return None
    wanted = set(itertools.product(few, repeat=2))
    fails = [steps for steps, held in enumerate(slow_joined(problem, some, 80)) if not wanted <= held]
    least = max(fails, default=-1) + 1
    return least if least < 60 else None


class TestFreeSets(unittest.TestCase):
    def test_walks(self):
        for problem in random_problems(931, 60, 3):
            for some in sets_of(problem.labels):
                for steps in range(4):
                    lines = slow_walks(problem, some, steps)
                    for top, bottom in itertools.product(some, repeat=2):
                        told = [line for line in lines if line[0] == top and line[-1] == bottom]
                        self.assertEqual(walk(problem, some, top, bottom, steps), min(told, default=None))
        loop = TreeProblem(12, 3, all_rows(12, 3))
        self.assertEqual(walk(loop, list(range(12)), 5, 7, 10 ** 4), (5,) + (0,) * 9999 + (7,))
        problem = TreeProblem(2, 1, [(0, (1,)), (1, (0,))])
        for top in (-1, 2, 1, True, None, 0.0):
            self.assertEqual(raised(BadNumber, walk, problem, [0], top, None, None).part, "top")
        for bottom in (-1, 2, 1, True, None, 0.0):
            self.assertEqual(raised(BadNumber, walk, problem, [0], 0, bottom, -1).part, "bottom")
        for steps in (-1, 10 ** 4 + 1, True, None, 0.0):
            self.assertEqual(raised(BadNumber, walk, problem, [0], 0, 0, steps).part, "steps")

    def test_walks_are_what_trees_can_bear(self):
        # In each tree and for each house of depth n: a at the root and b there, exactly if there is a walk.
        rng = random.Random(932)
        for problem in random_problems(933, 60, 3):
            for some in sets_of(problem.labels)[1:]:
                if trimmed(problem, some) != some:
                    continue
                tree = rng.choice(small_trees(rng.random(), problem.arms))
                if len(some) ** len(tree) > 2000:
                    continue
                right = [line for line in itertools.product(some, repeat=len(tree))
                         if slow_wrong(problem, tree, line) is None]
                place, steps = rng.randrange(len(tree)), 0
                above = place
                while above > 0:
                    above, steps = tree[above][1], steps + 1
                for top, bottom in itertools.product(some, repeat=2):
                    found = any(line[0] == top and line[place] == bottom for line in right)
                    self.assertIs(walk(problem, some, top, bottom, steps) is not None, found)

    def test_free_sets(self):
        for problem in random_problems(934, 120, 4) + [tower(2), tower(3)]:
            for some in sets_of(problem.labels)[-12:]:
                every = [few for few in sets_of(problem.labels) if slow_free_from(problem, some, few) is not None]
                for few in sets_of(problem.labels)[:24]:
                    self.assertEqual(free_from(problem, list(some), few[::-1]), slow_free_from(problem, some, few))
                greatest = tuple(few for few in every if not any(set(few) < set(other) for other in every))
                self.assertEqual(free_sets(problem, some), tuple(sorted(greatest)))
        self.assertIsNone(free_from(tower(1), [0, 1], []))
        self.assertEqual(free_sets(tower(1), []), ())

    def test_late_free_sets(self):
        # A ring of 12 labels with one chord, as rows of one arm: walks of all numbers of steps come late.
        late = TreeProblem(12, 1, [(a, (b,)) for a, b in brute.WIELANDT_12.pairs])
        every = list(range(12))
        self.assertEqual(free_from(late, every, every), 122)
        self.assertEqual(free_sets(late, every), (tuple(every),))
        self.assertEqual(some_hub(late), tuple(every))
        steady_ring = TreeProblem(12, 1, [(a, (b,)) for a, b in brute.LINE_12.pairs])
        self.assertIsNone(free_from(steady_ring, every, [3]))
        self.assertEqual(longest_chain(steady_ring), (tuple(every),))


def slow_longest(problem):
    """The greatest k of a chain, told by all chains; None if a set comes twice."""
    def on(some):
        best = 1
        for few in sets_of(problem.labels)[1:]:
            if slow_free_from(problem, some, few) is None:
                continue
            more = trimmed(problem, few)
            if more == some:
                return math.inf
            if more:
                best = max(best, 1 + on(more))
        return best

    first = trimmed(problem, list(range(problem.labels)))
    return on(first) if first else 0


class TestChains(unittest.TestCase):
    def test_against_all_chains(self):
        seen = set()
        for problem in random_problems(941, 200, 4) + [tower(1), tower(2)]:
            longest = slow_longest(problem)
            chain, hub = longest_chain(problem), some_hub(problem)
            if longest == math.inf:
                self.assertIsNone(chain)
                self.assertIs(is_hub(problem, hub), True)
                self.assertIs(is_chain(problem, (trimmed(problem, list(range(problem.labels))),)), True)
            else:
                self.assertEqual(len(chain), max(0, 2 * longest - 1))
                self.assertIsNone(hub)
                self.assertIs(is_chain(problem, chain), chain != ())
                for one, other in zip(chain[::2], chain[2::2]):
                    self.assertLess(set(other), set(one))
            hubs = [some for some in sets_of(problem.labels)[1:]
                    if trimmed(problem, some) == some and slow_free_from(problem, some, some) is not None]
            for some in sets_of(problem.labels):
                self.assertIs(is_hub(problem, some), some in hubs)
            self.assertIs(hubs == [], hub is None)
            seen.add(longest)
        self.assertEqual(seen, {0, 1, 2, math.inf})

    def test_chains_are_judged(self):
        rng = random.Random(942)
        for problem in random_problems(943, 60, 3) + [tower(2)]:
            first = trimmed(problem, list(range(problem.labels)))
            groups = sets_of(problem.labels)
            for _ in range(150):
                chain = (rng.choice(groups + [first] * 8),)
                for _ in range(rng.choice((0, 1, 1, 2))):
                    few = rng.choice(groups)
                    chain += (few, rng.choice((trimmed(problem, few), rng.choice(groups))))
                good = chain[0] == first and () not in chain and all(
                    slow_free_from(problem, chain[at - 1], chain[at]) is not None
                    and trimmed(problem, chain[at]) == chain[at + 1] for at in range(1, len(chain), 2))
                self.assertIs(is_chain(problem, chain), good)

    def test_towers(self):
        for many in range(1, 7):
            problem = tower(many)
            chain = longest_chain(problem)
            self.assertEqual(len(chain), 2 * many - 1)
            self.assertIs(is_chain(problem, chain), True)
            self.assertIs(is_chain(problem, chain[:-1]), False)
            self.assertIs(is_chain(problem, chain[:1]), True)
            self.assertIs(is_chain(problem, chain + chain[-1:]), False)
        everything = TreeProblem(12, 3, all_rows(12, 3))
        self.assertEqual(some_hub(everything), tuple(range(12)))
        self.assertIsNone(longest_chain(everything))

    def test_by_hand(self):
        # The examples of promise 69.
        two = TreeProblem(2, 2, [(0, (1, 1)), (1, (0, 0))])
        self.assertEqual(longest_chain(two), ((0, 1),))
        hub = TreeProblem(2, 2, [(0, (0, 1)), (1, (0, 0))])
        self.assertEqual(some_hub(hub), (0, 1))
        self.assertIs(is_hub(hub, (0, 1)), True)
        never = TreeProblem(2, 1, [(0, (1,))])
        self.assertEqual((longest_chain(never), some_hub(never)), ((), None))
        for thing in STRANGE + ((), (0,), (1, 0), (0, 0, 1), (0, 1, 2), (False, 1), (0, 1.0), [0, 1], (0, True)):
            self.assertIs(is_hub(hub, thing), False)
        for thing in STRANGE + ((), (0, 1), ((1, 0),), ((0, 1, 1),), ([0, 1],), [(0, 1)], ((0, True),), ((0, 1), (0, 1)),
                                ((0, 1), (), (0, 1)), ((0,),)):
            self.assertIs(is_chain(hub, thing), False)
        self.assertIs(is_chain(hub, ((0, 1),) * 9), True)
        for at in range(3):
            for part in ((1, 0), (0, 1, 1), [0, 1], (False, 1)):
                chain = [(0, 1)] * 3
                chain[at] = part
                self.assertIs(is_chain(hub, tuple(chain)), False)


if __name__ == "__main__":
    unittest.main()
