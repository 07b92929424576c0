"""Promises 51, 53 and 54: states of rings without a direction, classes with papers, bends."""

import itertools
import math
import random
import unittest

from roundwright.bends import bend, filled
from roundwright.errors import BadMarks, BadNumber, BadProblem, BadState, NotBending, TooMany
from roundwright.problems import RingProblem
from roundwright.sideclasses import is_side_paper, side_class, side_paper
from roundwright.sides import SideProblem, is_right_sides
from roundwright.sidestates import as_ring, is_state_walk, mirror, next_states, states, walk_of
from tests import brute
from tests.brute import STRANGE, raised
from tests.test_sides import random_problems, slow_sides

PROBLEMS = random_problems(401, 60, 3) + random_problems(402, 20, 4)
#: A side problem whose rings are those of a line of labels there and back: it bends late.
WHOLE_6 = SideProblem(6, [(a, b) for a in range(6) for b in range(a, 6)],
                      [(a, b) for a in range(6) for b in range(a, 6)])
EMPTY = SideProblem(6, [], [])
NO_STATE = (None, True, 0, (), (0,), (0, 0, 0), [0, 0], (0, True), (True, 0), (0, 6), (-1, 0), (0, 0.0), "ab")


def chain(lengths, labels):
    """A problem of few lines, in which rounds of these lengths meet at one state."""
    tops, lines, label = [(0, 0)], [], 1
    for length in lengths:
        here = 0
        for _ in range(length - 1):
            lines.append((here, label))
            tops.append((label, label))
            here, label = label, label + 1
        lines.append((0, here))
    return SideProblem(labels, tops, sorted(set(tuple(sorted(line)) for line in lines)))


def slow_steps(problem):
    held = slow_states(problem)
    return {one: [other for other in held if tuple(sorted((one[1], other[0]))) in problem.lines] for one in held}


def slow_states(problem):
    return sorted({(a, b) for a in range(problem.labels) for b in range(problem.labels)
                   if tuple(sorted((a, b))) in problem.tops})


def slow_walks(problem, steps):
    ways = slow_steps(problem)
    found = [(state,) for state in ways]
    for _ in range(steps):
        found = [walk + (state,) for walk in found for state in ways[walk[-1]]]
    return found


def reached(problem, most):
    """For each number of steps up to most the set of (one, other) such that a walk of so many leads there."""
    ways = slow_steps(problem)
    found = [{(state, state) for state in ways}]
    for _ in range(most):
        found.append({(one, other) for one, last in found[-1] for other in ways[last]})
    return found


def slow_class(problem):
    table = reached(problem, 60)
    held = slow_states(problem)
    lengths = {state: [n for n in range(1, 61) if (state, state) in table[n]] for state in held}
    if not any(lengths.values()):
        return "never"
    every = set().union(*table)
    both = [state for state in held if lengths[state] and math.gcd(*lengths[state]) == 1
            and (state, state[::-1]) in every and (state[::-1], state) in every]
    if any((state, state) in table[1] for state in both):
        return "loop"
    return "bending" if both else "stiff"


class TestStates(unittest.TestCase):
    def test_states_and_steps(self):
        for problem in PROBLEMS + [WHOLE_6, EMPTY]:
            held = states(problem)
            self.assertEqual(held, slow_states(problem))
            ways = slow_steps(problem)
            for state in held:
                self.assertEqual(next_states(problem, state), ways[state])
                self.assertEqual(mirror(mirror(state)), state)
                self.assertIn(mirror(state), held)
                for other in held:
                    self.assertIs(other in ways[state], mirror(state) in ways[mirror(other)])

    def test_closed_walks_are_labellings(self):
        for problem in PROBLEMS:
            for size in range(1, 4):
                closed = [walk[:-1] for walk in slow_walks(problem, size) if walk[0] == walk[-1]]
                self.assertEqual(sorted(closed), sorted(slow_sides(problem, size)))

    def test_walks(self):
        for problem in PROBLEMS[:40]:
            for steps in range(4):
                walks = slow_walks(problem, steps)
                for one, other in itertools.product(slow_states(problem), repeat=2):
                    some = [walk for walk in walks if walk[0] == one and walk[-1] == other]
                    self.assertEqual(walk_of(problem, one, other, steps), min(some, default=None))
                for walk in walks[:50]:
                    self.assertIs(is_state_walk(problem, walk), True)
                    self.assertIs(is_state_walk(problem, list(walk)), False)
                for walk in itertools.product(slow_states(problem)[:3], repeat=steps + 1):
                    self.assertIs(is_state_walk(problem, walk), walk in walks)
        one_way = SideProblem(2, [(0, 1)], [(0, 1)])
        self.assertEqual(walk_of(one_way, (0, 1), (0, 1), 400), ((0, 1),) * 401)
        self.assertIs(is_state_walk(one_way, ((0, 1),) * 5000), True)
        self.assertEqual(len(walk_of(WHOLE_6, (5, 5), (5, 5), 400)), 401)
        for thing in STRANGE + ((), ((0, 1), (1, 0)), ((0, True),), ((1, 1),), ((0, 1), None), [(0, 1)], (0, 1)):
            self.assertIs(is_state_walk(one_way, thing), False)

    def test_as_ring(self):
        for problem in PROBLEMS:
            held = slow_states(problem)
            if len(held) > 12:
                self.assertEqual(raised(TooMany, as_ring, problem).most, 12)
                continue
            ring, told = as_ring(problem)
            self.assertEqual(told, tuple(held))
            ways = slow_steps(problem)
            pairs = [(held.index(one), held.index(other)) for one in held for other in ways[one]]
            self.assertEqual(ring, RingProblem(max(1, len(held)), pairs))
        self.assertEqual(as_ring(EMPTY), (RingProblem(1, []), ()))
        twelve = SideProblem(6, [(0, b) for b in range(1, 6)] + [(1, 2)], [(0, 0)])
        self.assertEqual(as_ring(twelve)[0].labels, 12)
        thirteen = SideProblem(6, list(twelve.tops) + [(0, 0)], [(0, 0)])
        self.assertEqual(raised(TooMany, as_ring, thirteen).most, 12)

    def test_wrong_values(self):
        problem = SideProblem(2, [(0, 1)], [(0, 1)])
        for thing in NO_STATE:
            raised(BadState, mirror, thing)
        for thing in NO_STATE + ((0, 0), (1, 1), (0, 2)):
            raised(BadState, next_states, problem, thing)
            raised(BadState, walk_of, problem, thing, None, None)
            raised(BadState, walk_of, problem, (0, 1), thing, -1)
            raised(BadState, bend, problem, thing)
            raised(BadState, filled, problem, thing, None)
        self.assertEqual(mirror((5, 0)), (0, 5))
        for steps in (-1, 401, True, None, 1.0):
            self.assertEqual(raised(BadNumber, walk_of, problem, (0, 1), (0, 1), steps=steps).part, "steps")


class TestClasses(unittest.TestCase):
    def test_classes(self):
        seen = set()
        for problem in PROBLEMS + random_problems(403, 250, 3) + [WHOLE_6, EMPTY, chain((2, 3), 4), chain((3,), 3)]:
            kind = side_class(problem)
            self.assertEqual(kind, slow_class(problem))
            paper = side_paper(problem)
            self.assertEqual(paper[0], kind)
            self.assertIs(is_side_paper(problem, paper), True)
            for other in bent_papers(paper):
                self.assertIs(is_side_paper(problem, other), other[0] == kind and slow_paper(problem, other), other)
            seen.add(kind)
        self.assertEqual(seen, {"never", "loop", "bending", "stiff"})

    def test_no_other_papers(self):
        # Small papers of all four words, one by one: only those of the class are taken.
        for problem in random_problems(404, 60, 2):
            held = slow_states(problem)
            walks = [walk for steps in range(3) for walk in slow_walks(problem, steps)][:12]
            ranks = list(itertools.product(range(2), repeat=len(held)))
            found = {is_side_paper(problem, ("never", rank)) for rank in ranks}
            self.assertTrue(side_class(problem) == "never" or True not in found)
            loops = [("loop", state, there, back) for state in held for there in walks for back in walks]
            stiff = [("stiff", walk, rank, turns) for walk in walks[:4] for rank in ranks
                     for turns in itertools.product([(0, 0), (2, 0), (2, 1)], repeat=len(held))
                     if len(held) < 4]
            bending = [("bending", walk[0], walk, other, there, back, rank) for walk in walks[:6] for other in walks[:6]
                       for there in walks[:5] for back in walks[:5] for rank in ranks[:3]]
            for paper in loops + stiff + bending:
                taken = is_side_paper(problem, paper)
                self.assertIs(taken, slow_paper(problem, paper), paper)
                self.assertTrue(not taken or paper[0] == side_class(problem))

    def test_great_problems(self):
        rng = random.Random(405)
        every = [(a, b) for a in range(6) for b in range(a, 6)]
        for share in (0.1, 0.15, 0.3):
            for _ in range(4):
                problem = SideProblem(6, every, brute.some_of(rng, every, share))
                paper = side_paper(problem)
                self.assertEqual(paper[0], side_class(problem))
                self.assertIs(is_side_paper(problem, paper), True)
        self.assertEqual(len(states(WHOLE_6)), 36)

    def test_by_hand(self):
        loop = SideProblem(1, [(0, 0)], [(0, 0)])
        self.assertEqual(side_class(loop), "loop")
        self.assertIs(is_side_paper(loop, ("loop", (0, 0), ((0, 0),), ((0, 0), (0, 0)))), True)
        one_way = SideProblem(2, [(0, 1)], [(0, 1)])
        self.assertEqual(side_class(one_way), "stiff")
        walk = ((0, 1), (0, 1))
        self.assertIs(is_side_paper(one_way, ("stiff", walk, (0, 1), ((0, 0), (0, 0)))), True)
        self.assertIs(is_side_paper(one_way, ("stiff", walk, (1, 1), ((0, 0), (0, 0)))), False)
        self.assertIs(is_side_paper(one_way, ("stiff", ((0, 1),), (0, 1), ((0, 0), (0, 0)))), False)
        colours = SideProblem(3, [(0, 0), (1, 1), (2, 2)], [(0, 1), (0, 2), (1, 2)])
        self.assertEqual(side_class(colours), "bending")
        self.assertEqual(side_class(EMPTY), "never")
        self.assertIs(is_side_paper(EMPTY, ("never", ())), True)
        self.assertIs(is_side_paper(EMPTY, ("never", (0,))), False)
        self.assertEqual(side_class(SideProblem(2, [(0, 0), (1, 1)], [(0, 1)])), "stiff")

    def test_turns_of_three(self):
        # Steps lead from (0, 3) to (3, 0), on to (1, 1) and back: all in one part, one way round.
        problem = SideProblem(4, [(0, 3), (1, 1)], [(0, 1), (2, 2), (3, 3)])
        self.assertEqual(side_class(problem), "stiff")
        walk = ((0, 3), (3, 0), (1, 1), (0, 3))
        for turns in itertools.product([(0, 0)] + [(g, k) for g in (2, 3, 6) for k in range(g)], repeat=3):
            paper = ("stiff", walk, (0, 0, 0), turns)
            good = turns[0][0] == 3 and turns == tuple((3, (turns[0][1] + step) % 3) for step in (0, 2, 1))
            self.assertIs(is_side_paper(problem, paper), good)
            self.assertIs(slow_paper(problem, paper), good)
        self.assertIs(is_side_paper(problem, ("stiff", walk * 1000, (7, 7, 7), ((3, 0), (3, 2), (3, 1)))), False)
        long = walk[:3] * 1000 + walk[:1]
        self.assertIs(is_side_paper(problem, ("stiff", long, (7, 7, 7), ((3, 0), (3, 2), (3, 1)))), True)
        for turn in ((1, 0), (3, 3), (3, -1), (-3, 0), (0, 1), (3, True), (True, 0), (3.0, 0), [3, 0], (3,), (3, 0, 0), 3):
            self.assertIs(is_side_paper(problem, ("stiff", walk, (0, 0, 0), (turn, (3, 2), (3, 1)))), False)

    def test_bending_papers_part_by_part(self):
        rng = random.Random(409)
        taken = 0
        for problem in (chain((2, 3), 4), SideProblem(3, [(0, 0), (1, 1), (2, 2)], [(0, 1), (0, 2), (1, 2)]),
                        SideProblem(3, [(0, 1), (2, 2)], [(0, 0), (0, 2), (1, 1), (1, 2)])):
            walks = [walk for steps in range(5) for walk in slow_walks(problem, steps)]
            closed = [walk for walk in walks if walk[0] == walk[-1]]
            held = slow_states(problem)
            paper = side_paper(problem)
            for _ in range(1500):
                state = rng.choice(held)
                one, other = rng.choice(closed), rng.choice(closed)
                if rng.random() < 0.7:
                    one = rng.choice([walk for walk in closed if walk[0] == state])
                    other = rng.choice([walk for walk in closed if walk[0] == state])
                there = rng.choice([walk for walk in walks if walk[0] == state])
                back = there[::-1] if rng.random() < 0.8 else rng.choice(walks)
                back = tuple(mirror(one) for one in back) if rng.random() < 0.3 else back
                ranks = rng.choice((paper[-1], paper[-1], (0,) * len(held), tuple(rng.randint(0, 1) for _ in held)))
                told = ("bending", state, one, other, there, back, ranks)
                self.assertIs(is_side_paper(problem, told), slow_paper(problem, told), told)
                taken += slow_paper(problem, told)
        self.assertGreater(taken, 20)

    def test_kinds_of_papers(self):
        colours = SideProblem(3, [(0, 0), (1, 1), (2, 2)], [(0, 1), (0, 2), (1, 2)])
        paper = side_paper(colours)
        for at in range(len(paper)):
            for thing in STRANGE:
                self.assertIs(is_side_paper(colours, paper[:at] + (thing,) + paper[at + 1:]), False)
            if isinstance(paper[at], tuple):
                self.assertIs(is_side_paper(colours, paper[:at] + (list(paper[at]),) + paper[at + 1:]), False)
        self.assertIs(is_side_paper(colours, list(paper)), False)
        self.assertIs(is_side_paper(colours, paper + (0,)), False)
        self.assertIs(is_side_paper(colours, paper[:-1]), False)
        self.assertIs(is_side_paper(colours, paper[:-1] + ((True,) + paper[-1][1:],)), False)
        self.assertIs(is_side_paper(colours, paper[:-1] + ((-1,) + paper[-1][1:],)), False)
        for thing in STRANGE:
            self.assertIs(is_side_paper(colours, thing), False)


def slow_walk(problem, thing):
    ways = slow_steps(problem)
    return isinstance(thing, tuple) and thing != () and all(state in ways for state in thing) and all(
        other in ways[one] for one, other in zip(thing, thing[1:]))


def slow_paper(problem, paper):
    """What promise 53 says of papers, word by word, for papers of the right kinds."""
    ways = slow_steps(problem)
    held = slow_states(problem)
    steps = [(one, other) for one in held for other in ways[one]]
    if paper[0] == "never":
        rank = dict(zip(held, paper[1]))
        return len(paper[1]) == len(held) and all(rank[a] < rank[b] for a, b in steps)
    if paper[0] == "loop":
        _, state, there, back = paper
        return state in ways and state in ways[state] and leads(problem, state, there, back)
    closed = slow_walk(problem, paper[2 if paper[0] == "bending" else 1])
    if not closed:
        return False
    if paper[0] == "bending":
        _, state, one, other, there, back, ranks = paper
        if not slow_walk(problem, other):
            return False
        if [one[0], one[-1], other[0], other[-1]] != [state] * 4 or min(len(one), len(other)) < 2:
            return False
        rank = dict(zip(held, ranks))
        return (math.gcd(len(one) - 1, len(other) - 1) == 1 and leads(problem, state, there, back)
                and all(rank[a] <= rank[b] for a, b in steps)
                and all(rank[a] != rank[a[::-1]] for a in held if a in ways[a]))
    _, walk, ranks, turns = paper
    if walk[0] != walk[-1] or len(walk) < 2:
        return False
    rank, turn = dict(zip(held, ranks)), dict(zip(held, turns))
    for a, b in steps:
        if rank[a] > rank[b]:
            return False
        if rank[a] == rank[b] and turn[a][0] > 1 and turn[b][1] not in (turn[a][1] + 1, turn[a][1] + 1 - turn[a][0]):
            return False
    for a, b in itertools.product(held, repeat=2):
        if rank[a] == rank[b] and turn[a][0] != turn[b][0]:
            return False
    return all(turn[a][0] != 0 or rank[a] != rank[a[::-1]] for a in held)


def leads(problem, state, there, back):
    return (slow_walk(problem, there) and slow_walk(problem, back) and there[0] == state == back[-1]
            and there[-1] == state[::-1] == back[0])


def bent_papers(paper):
    """Papers of the right kinds that are a little different from one."""
    found = []
    for at, part in enumerate(paper):
        if at == 0 or part == ():
            continue
        if isinstance(part[0], tuple) and paper[0] == "stiff" and at == 3:
            for place in range(len(part)):
                found.append(paper[:at] + (part[:place] + ((2, 0),) + part[place + 1:],) + paper[at + 1:])
        elif isinstance(part[0], tuple):
            found.append(paper[:at] + (part[:-1],) + paper[at + 1:])
            found.append(paper[:at] + (part + part[-1:],) + paper[at + 1:])
        elif len(part) != 2 or at != 1:
            for place in range(len(part)):
                for rank in (0, 99):
                    found.append(paper[:at] + (part[:place] + (rank,) + part[place + 1:],) + paper[at + 1:])
    return found


class TestBends(unittest.TestCase):
    def test_bend_against_walks(self):
        bent = 0
        for problem in PROBLEMS + random_problems(406, 60, 3) + [chain((2, 3), 4), chain((3, 4), 6), chain((2, 5), 6)]:
            table = reached(problem, 80)
            every = set().union(*table)
            for state in slow_states(problem):
                lengths = [n for n in range(1, 80) if (state, state) in table[n]]
                other = state[::-1]
                both = lengths and math.gcd(*lengths) == 1 and {(state, other), (other, state)} <= every
                if not both:
                    raised(NotBending, bend, problem, state)
                    raised(NotBending, filled, problem, state, None)
                    continue
                bent += 1
                wanted = {(a, b) for a in (state, other) for b in (state, other)}
                fails = [n for n in range(81) if not wanted <= table[n]]
                self.assertEqual(bend(problem, state), max(fails, default=-1) + 1)
        self.assertGreater(bent, 50)

    def test_late_bends(self):
        # One way round five labels, or all six: as late as a ring with one chord is for as many states.
        every = [(a, b) for a in range(6) for b in range(a, 6)]
        rng = random.Random(407)
        latest = 0
        for _ in range(400):
            problem = SideProblem(6, brute.some_of(rng, every, 0.3), brute.some_of(rng, every, 0.15))
            if side_class(problem) == "bending":
                for state in states(problem):
                    try:
                        latest = max(latest, self.check_late(problem, state))
                    except NotBending:
                        continue
        self.assertGreater(latest, 4)

    def check_late(self, problem, state):
        least = bend(problem, state)
        for steps in range(least, 100):
            for one, other in itertools.product((state, mirror(state)), repeat=2):
                self.assertIsNotNone(walk_of(problem, one, other, steps))
        if least > 0:
            missing = [walk_of(problem, one, other, least - 1) is None
                       for one, other in itertools.product((state, mirror(state)), repeat=2)]
            self.assertIn(True, missing)
        return least

    def test_filled(self):
        rng = random.Random(408)
        for problem in (chain((2, 3), 4), chain((3, 4), 6), SideProblem(1, [(0, 0)], [(0, 0)]), WHOLE_6,
                        SideProblem(3, [(0, 0), (1, 1), (2, 2)], [(0, 1), (0, 2), (1, 2)])):
            for state in states(problem):
                try:
                    least = max(1, bend(problem, state))
                except NotBending:
                    continue
                for many in (1, 2, 5):
                    marks = [(rng.randint(least, least + 3), rng.choice((0, 1))) for _ in range(many)]
                    before = list(marks)
                    told = filled(problem, state, marks)
                    self.assertEqual(marks, before)
                    self.assertEqual(len(told), sum(gap for gap, _ in marks))
                    self.assertIs(is_right_sides(problem, told), True)
                    borne = [state if way == 0 else mirror(state) for _, way in marks]
                    place = 0
                    for at, (gap, _) in enumerate(marks):
                        walk = walk_of(problem, borne[at], borne[(at + 1) % many], gap)
                        self.assertEqual(told[place:place + gap], walk[:-1])
                        place += gap
                raised(BadMarks, filled, problem, state, [(least - 1, 0)])
                self.assertEqual(len(filled(problem, state, ((400, 1),))), 400)
                raised(BadMarks, filled, problem, state, [(401, 1)])
                raised(BadMarks, filled, problem, state, [(400, 1), (max(1, least), 0)])

    def test_wrong_marks(self):
        problem = SideProblem(1, [(0, 0)], [(0, 0)])
        self.assertEqual(bend(problem, (0, 0)), 0)
        for marks in ([], (), None, "ab", [(1, 2)], [(1, True)], [(True, 0)], [[1, 0]], [(1,)], [(1, 0, 0)], [(0, 0)],
                      [(1, -1)], [(1, None)], [(1.0, 0)], {(1, 0): 1}, [(1, 0)] * 101, [(5, 0)] * 80 + [(1, 0)]):
            raised(BadMarks, filled, problem, (0, 0), marks)
        self.assertEqual(filled(problem, (0, 0), [(1, 0)] * 100), ((0, 0),) * 100)
        self.assertEqual(filled(problem, (0, 0), [(4, 1)] * 100), ((0, 0),) * 400)

    def test_problem_first(self):
        for thing in STRANGE + (brute.COLOURS,):
            for call, many in ((states, 0), (next_states, 1), (is_state_walk, 1), (walk_of, 3), (as_ring, 0),
                               (side_class, 0), (side_paper, 0), (is_side_paper, 1), (bend, 1), (filled, 2)):
                self.assertIsNone(raised(BadProblem, call, thing, *[None] * many).part)


if __name__ == "__main__":
    unittest.main()
