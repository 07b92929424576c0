"""Promises 41 to 47 and 87: lines of houses, runs, least walks, made programs, and the two examples."""

import copy
import itertools
import random
import unittest

from roundwright.closedwalks import bends_from
from roundwright.errors import BadNet, BadNumber, BadProblem, BadProgram
from roundwright.examples import examples
from roundwright.making import made
from roundwright.problems import PathProblem, RingProblem, is_right, some_labelling
from roundwright.problemtexts import problem_of_text
from roundwright.programtexts import program_of_text, program_text
from roundwright.runs import ran, rounds_at, run_states
from roundwright.stages import Program, rounds_of
from roundwright.walks import least_walk_of
from tests import brute
from tests.brute import STRANGE, raised


def slow_walk(problem, begins, ends, steps):
    for line in itertools.product(range(problem.labels), repeat=steps + 1):
        if line[0] in begins and line[-1] in ends and all(pair in problem.pairs for pair in zip(line, line[1:])):
            return line
    return None


class SlowRun:
    """A run straight from the words of the document."""

    def __init__(self, problem, net):
        self.problem, self.net, self.size = problem, net, len(net)
        self.ring = isinstance(problem, RingProblem)
        self.signs, self.marks, self.answers = list(net), [True] * self.size, [None] * self.size

    def at(self, place):
        if self.ring:
            return place % self.size
        return place if 0 <= place < self.size else None

    def next_marked(self, place, way, reach):
        """How many places behind (way 1) or ahead (way -1) the next marked house is, None without one within reach."""
        for step in range(1, min(reach, 2 * self.size) + 1):
            other = self.at(place + way * step)
            if other is not None and self.marks[other]:
                return step
        return None

    def beside(self, place, reach):
        steps = [(way, self.next_marked(place, way, reach)) for way in (1, -1)]
        return [self.at(place + way * step) for way, step in steps if step is not None]

    def stage(self, stage):
        word, rest = stage[0], stage[1:]
        new_signs, new_marks, new_answers = list(self.signs), list(self.marks), list(self.answers)
        stays = {}
        for number in (0, 1, 2):
            for place in range(self.size):
                if word == "stay" and self.marks[place] and self.signs[place] == number:
                    near = self.beside(place, rest[0])
                    stays[place] = not number or not any(
                        self.signs[at] == 0 or (number == 2 and self.signs[at] == 1 and stays[at]) for at in near)
        for place in range(self.size):
            if word in ("names", "bits", "drop") and not self.marks[place]:
                continue
            if word == "names":
                new_signs[place] = self.net[place]
            elif word == "bits":
                sign, step = self.signs[place], self.next_marked(place, 1, rest[0])
                other = sign if step is None else self.signs[self.at(place + step)]
                if other == sign:
                    new_signs[place] = sign % 2
                else:
                    i = 0
                    while sign // 2 ** i % 2 == other // 2 ** i % 2:
                        i += 1
                    new_signs[place] = 2 * i + sign // 2 ** i % 2
            elif word == "drop" and self.signs[place] == rest[0]:
                near = [self.signs[at] for at in self.beside(place, rest[1])]
                new_signs[place] = min(number for number in range(4) if number not in near)
            elif word == "stay":
                new_marks[place] = stays.get(place, False)
            elif word == "clear" and not self.ring:
                new_marks[place] = self.marks[place] and place >= rest[0] and self.size - 1 - place >= rest[0]
            elif word == "all" and self.answers[place] is None:
                new_answers[place] = rest[0]
            elif word == "fill" and self.answers[place] is None:
                new_answers[place] = self.filled(place, *rest)
            elif word == "whole" and self.answers[place] is None:
                if self.size <= (2 * rest[0] if self.ring else rest[0]):
                    least = some_labelling(self.problem, self.size)
                    first = self.net.index(min(self.net)) if self.ring else 0
                    new_answers[place] = -1 if least is None else least[(place - first) % self.size]
        self.signs, self.marks, self.answers = new_signs, new_marks, new_answers

    def filled(self, place, label, reach):
        if self.marks[place]:
            return label
        x, y = self.next_marked(place, -1, reach), self.next_marked(place, 1, reach)
        begins, ends = (label,), (label,)
        if not self.ring and y is not None and self.next_marked(place, -1, 999) is None and place < reach:
            begins, x = self.problem.starts, place
        elif not self.ring and x is not None and self.next_marked(place, 1, 999) is None:
            ends, y = self.problem.ends, self.size - 1 - place
            if y >= reach:
                return None
        if x is None or y is None:
            return None
        walk = least_walk_of(self.problem, begins, ends, x + y)
        return None if walk is None else walk[x]

    def told(self):
        return tuple(self.signs), tuple(self.marks), tuple(self.answers)


def slow_states(program, net):
    run = SlowRun(program.problem, net)
    found = [run.told()]
    for stage in program.stages:
        run.stage(stage)
        found.append(run.told())
    return found


def random_stage(rng, problem):
    reach, label = rng.choice((1, 1, 2, 3, 5, 9, 10 ** 6)), rng.randrange(problem.labels)
    return rng.choice((("names",), ("bits", reach), ("bits", reach), ("drop", rng.randint(0, 6), reach), ("stay", reach),
                       ("clear", reach), ("fill", label, reach), ("all", label), ("whole", reach)))


def thinned(reach):
    return (("names",),) + (("bits", reach),) * 4 + tuple(("drop", c, reach) for c in (5, 4, 3)) + (("stay", reach),)


def random_net(rng, size, most=10 ** 9):
    return tuple(rng.sample(range(1, max(most, size) + 1), size))


class TestRuns(unittest.TestCase):
    def test_against_the_words(self):
        rng = random.Random(621)
        for problem in brute.random_problems(622, 500, 3):
            stages = tuple(random_stage(rng, problem) for _ in range(rng.randint(0, 6)))
            if rng.random() < 0.5:
                stages = thinned(1) + stages
            program = Program(problem, stages)
            net = random_net(rng, rng.randint(1, 14), rng.choice((20, 10 ** 9)))
            before = copy.deepcopy((program, net))
            found = run_states(program, net)
            self.assertEqual(found, slow_states(program, net))
            self.assertEqual(ran(program, net), found[-1][2])
            self.assertEqual((program, net), before)
            self.assertTrue(all(type(mark) is bool for triple in found for mark in triple[1]))

    def test_small_nets(self):
        program = Program(brute.CHESS, thinned(1) + (("fill", 0, 1),))
        self.assertEqual(run_states(program, (6,))[0], ((6,), (True,), (None,)))
        # The house of a ring of one is its own neighbour, so it loses its mark if it bears 2, and keeps it otherwise.
        self.assertEqual(run_states(program, (6,))[2][0], (0,))
        self.assertEqual(run_states(Program(brute.CHESS, (("drop", 0, 1),)), (7,))[1][0], (7,))
        self.assertEqual(ran(Program(brute.CHESS, ()), (5, 6)), (None, None))
        self.assertEqual(ran(Program(brute.CHESS, (("whole", 1), ("all", 1))), (5,)), (-1,))
        self.assertEqual(ran(Program(brute.CHESS, (("whole", 1), ("all", 1))), (5, 3)), (1, 0))
        self.assertEqual(ran(Program(brute.CHESS, (("whole", 1), ("all", 1))), (5, 3, 9)), (1, 1, 1))
        self.assertEqual(ran(Program(brute.CHESS_PATH, (("whole", 2),)), (5, 3)), (0, 1))
        self.assertEqual(ran(Program(brute.CHESS_PATH, (("whole", 2),)), (5, 3, 1)), (None,) * 3)

    def test_rounds_at(self):
        def told(problem, size, *stages):
            return rounds_at(Program(problem, stages), size)

        ring, path = brute.CHESS, brute.CHESS_PATH
        self.assertEqual([told(ring, size, ("whole", 3), ("bits", 5)) for size in (1, 2, 5, 6, 7)], [1, 1, 3, 3, 5])
        self.assertEqual([told(path, size, ("whole", 3), ("bits", 5)) for size in (1, 2, 3, 4)], [1, 2, 3, 5])
        self.assertEqual(told(ring, 4, ("all", 0), ("whole", 9)), 9)
        self.assertEqual(told(path, 4, ("fill", 0, 1), ("whole", 9)), 9)
        self.assertEqual(told(ring, 4, ("names",), ("stay", 4), ("whole", 1), ("whole", 9), ("fill", 0, 1)), 2)
        self.assertEqual(told(ring, 4), 0)
        self.assertEqual(rounds_at(program=Program(path, (("whole", 400),)), size=400), 400)
        for size in (0, 401, True, None, 2.0):
            self.assertEqual(raised(BadNumber, rounds_at, Program(ring, ()), size).part, "size")

    def test_wrong_values(self):
        for thing in STRANGE + (brute.CHESS,):
            for call in (run_states, ran):
                self.assertIsNone(raised(BadProgram, call, thing, None).part)
            self.assertIsNone(raised(BadProgram, rounds_at, thing, None).part)
            for call in (run_states, ran):
                raised(BadNet, call, Program(brute.CHESS, ()), thing)
        for net in ((), (0,), (1, 1), (True,), [1, 2], tuple(range(1, 402)), (10 ** 9 + 1,)):
            raised(BadNet, run_states, Program(brute.CHESS, ()), net)

    def test_facts_of_signs_and_gaps(self):
        rng = random.Random(623)
        for ring in (True, False):
            problem = brute.CHESS if ring else brute.CHESS_PATH
            for size in (2, 3, 4, 5, 17, 60, 400):
                net = random_net(rng, size, rng.choice((size, 10 ** 9)))
                stages = [stage for reach in (1, 3, 9) for stage in thinned(reach)]
                states = run_states(Program(problem, tuple(stages)), net)
                self.follow(ring, size, stages, states)

    def follow(self, ring, size, stages, states):
        low, most, bound = 1, 1, 10 ** 9 + 1
        for stage, (signs, marks, _) in zip(stages, states[1:]):
            places = [place for place in range(size) if marks[place]]
            if ring:
                lines = [(a, b, (b - a) % size or size) for a, b in zip(places, places[1:] + places[:1])]
            else:
                lines = [(a, b, b - a) for a, b in zip(places, places[1:])]
            if stage[0] == "stay":
                low, most = 2 * low, 3 * most
                self.assertTrue(len(places) > 1 or size <= 3 * most or not ring)
                if ring and len(places) > 1 or not ring:
                    self.assertTrue(all(low <= gap <= most for _, _, gap in lines))
                if not ring:
                    self.assertTrue(places and places[0] < most and size - 1 - places[-1] < most)
                continue
            if stage[0] == "names":
                bound = 10 ** 9 + 1
            elif stage[0] == "bits":
                bound = 2 * max(1, (bound - 1).bit_length())
            self.assertTrue(all(signs[place] < bound for place in places))
            # A house that hears itself alone is like itself.
            self.assertTrue(all(signs[a] != signs[b] for a, b, gap in lines if a != b and gap <= stage[-1]
                                ) if stage[0] != "names" else True)


class TestWalks(unittest.TestCase):
    def test_against_all_walks(self):
        rng = random.Random(624)
        for problem in brute.random_problems(625, 150, 3):
            begins = brute.some_of(rng, range(problem.labels), 0.6)
            ends = rng.sample(range(problem.labels), rng.randint(0, problem.labels))
            for steps in range(6):
                self.assertEqual(least_walk_of(problem, begins, ends, steps), slow_walk(problem, begins, ends, steps))

    def test_many_steps(self):
        found = least_walk_of(brute.TWO_AND_THREE, [0], (0,), 10 ** 5)
        self.assertEqual(found, (0, 1) * 50000 + (0,))
        found = least_walk_of(brute.WIELANDT_12, [0], [0], 10 ** 5)
        self.assertEqual((len(found), found[0], found[-1]), (10 ** 5 + 1, 0, 0))
        self.assertIsNone(least_walk_of(brute.CHESS, [0], [0], 99999))
        self.assertEqual(least_walk_of(problem=brute.CHESS, begins=[1, 0], ends=[1], steps=0), (1,))

    def test_wrong_values(self):
        for thing in (None, [3], [0, 0], [True], [-1], "0", {0: 1}, 0, [0.0]):
            self.assertEqual(raised(BadNumber, least_walk_of, brute.COLOURS, thing, None, None).part, "begins")
            self.assertEqual(raised(BadNumber, least_walk_of, brute.COLOURS, [0], thing, None).part, "ends")
        for steps in (-1, 10 ** 5 + 1, True, None, 1.0):
            self.assertEqual(raised(BadNumber, least_walk_of, brute.COLOURS, [], [], steps).part, "steps")
        for thing in STRANGE:
            self.assertIsNone(raised(BadProblem, least_walk_of, thing, None, None, None).part)
            self.assertIsNone(raised(BadProblem, made, thing).part)


class TestMade(unittest.TestCase):
    def check(self, problem, net):
        program = made(problem)
        found = ran(program, net)
        if some_labelling(problem, len(net)) is None:
            self.assertEqual(found, (-1,) * len(net))
        else:
            self.assertTrue(is_right(problem, found), (problem.pairs, net))
        return program

    def test_small_nets_whatever_the_names(self):
        rng = random.Random(626)
        for problem in brute.tiny_problems() + brute.random_problems(627, 120, 4):
            for size in range(1, 6):
                for net in itertools.islice(itertools.permutations(range(1, size + 1)), 0, None, 7):
                    self.check(problem, net)
            for size in (6, 7, 8, 9, 13, 40):
                self.check(problem, random_net(rng, size, rng.choice((size, 10 ** 9))))

    def test_great_nets(self):
        rng = random.Random(628)
        problems = brute.random_problems(629, 25, 12)
        problems += [brute.WIELANDT_12, brute.LINE_12, brute.WHOLE_12, brute.EMPTY_12, brute.COLOURS,
                     brute.TWO_AND_THREE, brute.TWOS_OR_THREES, brute.CHESS_PATH,
                     PathProblem(12, brute.WIELANDT_12.pairs, [3], [4]), PathProblem(12, brute.LINE_12.pairs, [0], [11])]
        for problem in problems:
            for size in (400, 399, rng.randint(15, 398)):
                self.check(problem, random_net(rng, size))
                self.check(problem, tuple(range(1, size + 1)))

    def test_long_rings_of_two_and_three(self):
        # On great nets far beyond "whole" the thinnings alone tell the labels.
        rng = random.Random(630)
        for problem in (brute.COLOURS, brute.TWO_AND_THREE, PathProblem(3, brute.TWO_AND_THREE.pairs, [0], [2])):
            program = made(problem)
            for size in (25, 60, 61, 150, 400):
                if rounds_at(program, size) == rounds_of(program):
                    for _ in range(5):
                        self.assertNotIn(-1, self.check(problem, random_net(rng, size)).stages)

    def test_forms(self):
        self.assertEqual(made(brute.COLOURS).stages, (("whole", 12),) + thinned(1) + (("fill", 0, 3),))
        self.assertEqual(made(brute.EMPTY_12).stages, (("whole", 200),))
        self.assertEqual(made(brute.CHESS).stages, (("whole", 200),))
        self.assertEqual(made(brute.CHESS_PATH).stages, (("whole", 400),))
        self.assertEqual(made(RingProblem(3, [(2, 2), (1, 1), (0, 1)])).stages, (("all", 1),))
        self.assertEqual(made(problem=brute.WHOLE_12).stages, (("all", 0),))
        # A label of 12 that bends latest of all: 122 is at most 2 ** 7.
        self.assertEqual(bends_from(brute.WIELANDT_12, 0), 122)
        bend, least = min((bends_from(brute.WIELANDT_12, label), label) for label in range(12))
        self.assertTrue(64 < bend <= 128)
        rounds = 9 * (3 ** 7 - 1) // 2 + 3 ** 7
        program = made(brute.WIELANDT_12)
        self.assertEqual((program.stages[0], program.stages[-1]), (("whole", rounds), ("fill", least, 3 ** 7)))
        self.assertEqual((len(program.stages), rounds_of(program)), (2 + 7 * 9, rounds))
        line = [(0, 1), (1, 2), (2, 2), (2, 3), (3, 4)]
        self.assertEqual(made(PathProblem(5, line, [0], [4])).stages, (("whole", 4), ("clear", 2), ("fill", 2, 2)))
        self.assertEqual(made(PathProblem(5, line, [0, 2], [2])).stages, (("whole", 2), ("clear", 1), ("fill", 2, 1)))
        # Label 2 is a loop, but no walk leads from it to an end.
        self.assertEqual(made(PathProblem(5, line, [0], [1])).stages, (("whole", 400),))
        path = PathProblem(4, [(0, 1), (1, 0), (1, 2), (2, 0), (3, 0)], [3], [0])
        self.assertEqual(made(path).stages, (("whole", 9 + 6 + 3),) + thinned(1) + (("clear", 3), ("fill", 0, 6)))

    def test_rounds(self):
        for problem in brute.random_problems(631, 200, 6):
            program = made(problem)
            words = [stage[0] for stage in program.stages]
            if "whole" in words:
                self.assertEqual(rounds_of(program), program.stages[0][1])
            else:
                self.assertEqual((words, rounds_of(program)), (["all"], 0))


class TestExamples(unittest.TestCase):
    def test_they_are_made_and_answer_right(self):
        rng = random.Random(632)
        for problem_text, text in examples():
            problem, names = problem_of_text(problem_text)
            program, again = program_of_text(text)
            self.assertEqual((program, again), (made(problem), names))
            self.assertEqual(program_text(made(problem), names), text)
            ring = isinstance(problem, RingProblem)
            for size in list(range(1, 30)) + [101, 399, 400]:
                net = random_net(rng, size)
                found = ran(program, net)
                if ring and size == 1:
                    self.assertEqual(found, (-1,))
                else:
                    self.assertTrue(is_right(problem, found))
                self.assertLessEqual(rounds_at(program, size), 12 if ring else size)
            self.assertEqual(rounds_of(program), 12 if ring else 400)


if __name__ == "__main__":
    unittest.main()
