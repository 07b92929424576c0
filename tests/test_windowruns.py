"""Promises 43, 46 to 48 and 2 (b): answers by windows, windows round by round, programs as tables."""

import itertools
import random
import unittest

from roundwright.errors import BadNumber, BadProblem, BadProgram, BadTable, BadWindow
from roundwright.making import made
from roundwright.nets import path_window, ring_window
from roundwright.problems import PathProblem, RingProblem, is_right
from roundwright.programtables import table_of
from roundwright.runs import ran
from roundwright.stages import Program, rounds_of
from roundwright.tables import answered, is_sound
from roundwright.windowruns import answer_at, begin_window, label_of, next_window
from tests import brute
from tests.brute import STRANGE, raised
from tests.test_runs import random_net, random_stage, thinned


def window_of(problem, net, place, rounds):
    """The window of a house, of any number of rounds."""
    size = len(net)
    if isinstance(problem, RingProblem):
        return tuple(net[at % size] for at in range(place - rounds, place + rounds + 1))
    return tuple(net[at] if 0 <= at < size else 0 for at in range(place - rounds, place + rounds + 1))


def small_program(rng, problem):
    stages = []
    for _ in range(rng.randint(0, 5)):
        stage = random_stage(rng, problem)
        if stage[0] in ("names", "all") or stage[-1] < 10:
            stages.append(stage)
    return Program(problem, (thinned(1) if rng.random() < 0.4 else ()) + tuple(stages))


class TestAnswers(unittest.TestCase):
    def test_ran_is_answer_at_of_the_window(self):
        rng = random.Random(671)
        for problem in brute.random_problems(672, 500, 3):
            program = small_program(rng, problem)
            rounds = rounds_of(program)
            for size in (rng.randint(1, 6), rng.randint(1, 40), 2 * rounds + 1, 2 * rounds + 2, max(1, 2 * rounds)):
                net = random_net(rng, size, rng.choice((size + 5, 10 ** 9)))
                found = ran(program, net)
                for place in rng.sample(range(size), min(size, 6)):
                    self.assertEqual(answer_at(program, window_of(problem, net, place, rounds)), found[place])

    def test_houses_that_hear_round_by_round(self):
        rng = random.Random(673)
        for problem in brute.random_problems(674, 40, 3):
            program = small_program(rng, problem)
            rounds = rounds_of(program)
            size = rng.choice((1, 2, 3, 7, 30))
            net = random_net(rng, size)
            windows = [begin_window(program, name) for name in net]
            ring = isinstance(problem, RingProblem)
            for step in range(rounds + 3):
                for place in range(size):
                    told = ring_window(net, place, step) if ring else path_window(net, place, step)
                    self.assertEqual(windows[place], told)
                labels = tuple(label_of(program, window) for window in windows)
                if step < rounds:
                    self.assertEqual(labels, (None,) * size)
                else:
                    self.assertEqual(labels, ran(program, net))
                sides = [windows[-1] if ring else None] + windows, windows[1:] + [windows[0] if ring else None]
                windows = [next_window(program, own, left, right)
                           for own, left, right in zip(windows, sides[0], sides[1])]

    def test_made_programs_by_their_windows(self):
        rng = random.Random(675)
        problems = [brute.COLOURS, brute.TWO_AND_THREE, brute.TWOS_OR_THREES, brute.CHESS_PATH, brute.WIELANDT_12,
                    PathProblem(3, brute.TWO_AND_THREE.pairs, [0], [2]), PathProblem(2, [(0, 1), (1, 1), (1, 0)], [0], [0])]
        for problem in problems:
            program = made(problem)
            rounds = rounds_of(program)
            for size in (1, 5, 60, 400):
                net = random_net(rng, size)
                found = ran(program, net)
                for place in rng.sample(range(size), 1 if rounds > 1000 else min(size, 8)):
                    self.assertEqual(answer_at(program, window_of(problem, net, place, rounds)), found[place])

    def test_an_answer_hangs_on_nothing_else(self):
        # Two nets in which a house has the same window: great ones and small ones, with all other names new.
        rng = random.Random(676)
        for problem in brute.random_problems(677, 150, 3):
            program = small_program(rng, problem)
            rounds = rounds_of(program)
            ring = isinstance(problem, RingProblem)
            near = random_net(rng, 2 * rounds + 1, 10 ** 6)
            answers = set()
            for more in (0, 1, 2, 17):
                far = tuple(rng.sample(range(10 ** 6 + 1, 10 ** 9), more + (1 if more and not ring else 0)))
                cut = rng.randint(0, len(far)) if not ring else len(far)
                net = far[cut:] + near + far[:cut]
                place = net.index(near[rounds])
                if window_of(problem, net, place, rounds) == near:
                    answers.add(ran(program, net)[place])
            self.assertEqual(answers, {answer_at(program, near)})

    def test_windows_beyond_all_nets(self):
        # 4 * 10 ** 4 houses: rings of any size are promised right labellings.
        program = made(brute.WIELANDT_12)
        rounds = rounds_of(program)
        names = tuple(random.Random(678).sample(range(1, 10 ** 9), 2 * rounds + 2))
        first, second = answer_at(program, names[:-1]), answer_at(program, names[1:])
        self.assertIn((first, second), brute.WIELANDT_12.pairs)


class TestWrongWindows(unittest.TestCase):
    def test_rings(self):
        program = Program(brute.COLOURS, (("bits", 2), ("all", 1)))
        good = ((1, 2, 3, 4, 5), (1, 1, 1, 1, 1), (1, 2, 1, 2, 1), (1, 2, 3, 1, 2), (4, 2, 3, 9, 4), (10 ** 9, 2, 3, 4, 5))
        for window in good:
            self.assertEqual(answer_at(program, window), 1)
            self.assertEqual(label_of(program, window), 1)
        bad = STRANGE + ((1, 2, 3, 4, 1, 2), (1, 2, 1, 3, 1), (1, 1, 2, 1, 1), (1, 2, 3, 2, 1), (1, 2, 2, 1, 2), (1, 2, 3, 4, 3),
                         (0, 1, 2, 3, 4), (1, 2, 3, 4, True), [1, 2, 3, 4, 5], (1, 2, 3, 4, 10 ** 9 + 1), (1.0, 2, 3, 4, 5),
                         (), (2, 1, 1, 1, 1))
        for window in bad:
            raised(BadWindow, answer_at, program, window)
            raised(BadWindow, label_of, program, window)
            raised(BadWindow, next_window, program, window, good[0], good[0])
            raised(BadWindow, next_window, program, good[0], window, good[0])
            raised(BadWindow, next_window, program, good[0], good[0], window)
        for window in ((1,), (1, 2, 3), (1, 2, 3, 4, 5, 6, 7)):
            raised(BadWindow, answer_at, program, window)
            raised(BadWindow, next_window, program, good[0], window, good[0])
        self.assertIsNone(label_of(program, (1, 2, 3)))
        self.assertEqual(label_of(program=program, window=(1, 2, 3, 4, 5, 6, 7)), 1)
        raised(BadWindow, next_window, program, good[0], None, good[0])
        self.assertEqual(next_window(program=program, window=(1, 2, 3), left=(4, 1, 2), right=(2, 3, 5)), (4, 1, 2, 3, 5))

    def test_paths(self):
        program = Program(brute.CHESS_PATH, (("bits", 2), ("all", 1)))
        for window in ((1, 2, 3, 4, 5), (0, 0, 1, 0, 0), (0, 1, 2, 0, 0), (0, 0, 1, 2, 3), (4, 3, 2, 0, 0)):
            self.assertEqual(answer_at(program, window), 1)
        for window in STRANGE + ((1, 2, 0, 3, 4), (0, 0, 0, 0, 0), (1, 0, 2, 3, 4), (1, 2, 1, 2, 1), (1, 2, 3, 0, 4),
                                 (0, 1, 2, 1, 0), (0, 1, False, 0, 0), (-1, 1, 2, 3, 4), (1, 2, 3, 0.0, 0)):
            raised(BadWindow, answer_at, program, window)
        self.assertEqual(next_window(program, (7,), None, None), (0, 7, 0))
        self.assertEqual(next_window(program, (7,), (3,), None), (3, 7, 0))
        self.assertEqual(next_window(program, (0, 7, 8), None, (7, 8, 9)), (0, 0, 7, 8, 9))
        raised(BadWindow, next_window, program, (7,), None, (1, 2, 3))

    def test_names_and_programs(self):
        program = Program(brute.COLOURS, ())
        for name in (0, 10 ** 9 + 1, True, None, 1.0, "1"):
            self.assertEqual(raised(BadNumber, begin_window, program, name).part, "name")
        self.assertEqual(begin_window(program=program, name=10 ** 9), (10 ** 9,))
        self.assertIsNone(answer_at(program, (5,)))
        for thing in STRANGE + (brute.COLOURS,):
            for call in (answer_at, begin_window, label_of, table_of):
                self.assertIsNone(raised(BadProgram, call, thing, None).part)
            self.assertIsNone(raised(BadProgram, next_window, thing, None, None, None).part)


class TestTables(unittest.TestCase):
    def test_tables_answer_as_programs(self):
        rng = random.Random(679)
        tables = sound = 0
        for problem in brute.random_rings(680, 250, 3):
            reaches = rng.choice(((), (1,), (1,), (1, 1), (2,), (3,)))
            stages = [rng.choice((("bits", reach), ("drop", rng.randint(0, 3), reach), ("whole", reach),
                                  ("fill", rng.randrange(problem.labels), reach))) for reach in reaches]
            program = Program(problem, tuple(stages) + (("all", rng.randrange(problem.labels)),))
            rounds = rounds_of(program)
            names = {0: 5, 1: 5, 2: 6, 3: 7}[rounds]
            table = table_of(program, names)
            tables += 1
            right = True
            for size in range(2 * rounds + 1, names + 1):
                nets = [net for net in itertools.permutations(range(1, names + 1), size) if net[0] == min(net)]
                for net in nets if len(nets) < 100 else rng.sample(nets, 100):
                    found = ran(program, net)
                    self.assertEqual(answered(table, net), found)
                    right = right and (size < 2 * rounds + 2 or is_right(problem, found))
            if rounds < 2:
                self.assertIs(is_sound(problem, table), right)
            sound += right
        self.assertTrue(tables > 200 and sound > 20)

    def test_wrong_values(self):
        self.assertIsNone(raised(BadProblem, table_of, Program(brute.CHESS_PATH, (("stay", 2),)), None).part)
        self.assertEqual(raised(BadTable, table_of, Program(brute.CHESS, (("stay", 2),)), None).part, "rounds")
        self.assertEqual(raised(BadTable, table_of, Program(brute.CHESS, (("whole", 4),)), 9).part, "rounds")
        for names in (0, 2, 17, True, None, 3.0):
            self.assertEqual(raised(BadTable, table_of, Program(brute.CHESS, (("whole", 1),)), names).part, "names")
        # No ring is seen whole in windows of unlike names.
        self.assertEqual(raised(BadTable, table_of, Program(brute.CHESS, (("whole", 1),)), 5).part, "answers")
        table = table_of(program=Program(brute.CHESS, (("whole", 3), ("all", 1))), names=8)
        self.assertEqual((table.rounds, len(table.answers), set(table.answers.values())), (3, 40320, {1}))
        self.assertEqual(len(table_of(Program(brute.CHESS, (("all", 0),)), 224).answers), 224)


if __name__ == "__main__":
    unittest.main()
