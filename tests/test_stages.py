"""Promises 40 and 70: programs and their stages, steppers."""

import copy
import itertools
import unittest

from roundwright.errors import BadProblem, BadProgram, BadWork
from roundwright.problems import PathProblem, RingProblem
from roundwright.sides import SideProblem
from roundwright.stages import Program, rounds_of
from roundwright.steppers import Stepper
from tests import brute
from tests.brute import STRANGE, Odd, raised

GOOD = (("names",), ("bits", 1), ("drop", 0, 10 ** 6), ("drop", 10 ** 6, 1), ("stay", 2), ("clear", 3),
        ("fill", 2, 5), ("all", 0), ("whole", 10 ** 6), ("whole", 1))
BAD = STRANGE + (
    (), ("names", 1), ("bits",), ("bits", 0), ("bits", 10 ** 6 + 1), ("bits", True), ("bits", 1.0), ("bits", 1, 1),
    ("drop", 1), ("drop", -1, 1), ("drop", 10 ** 6 + 1, 1), ("drop", True, 1), ("drop", 1, True), ("drop", 1, 0),
    ("stay",), ("stay", 0), ("clear", 0), ("clear", "1"), ("fill", 3, 1), ("fill", -1, 1), ("fill", True, 1),
    ("fill", 0), ("fill", 0, 0), ("all",), ("all", 3), ("all", True), ("whole",), ("whole", 0), ("whole", 10 ** 6 + 1),
    ["names"], "names", ("name",), (None,), (Odd(),), (["names"],), (("names",),))


class TestPrograms(unittest.TestCase):
    def test_attributes_and_equality(self):
        program = Program(problem=brute.COLOURS, stages=GOOD)
        self.assertEqual(program.problem, brute.COLOURS)
        self.assertEqual(program.stages, GOOD)
        self.assertEqual(program, Program(RingProblem(3, brute.COLOURS.pairs), tuple(list(GOOD))))
        path = PathProblem(3, brute.COLOURS.pairs, [], [])
        for other in (Program(brute.COLOURS, GOOD[:-1]), Program(path, GOOD), GOOD, None, brute.COLOURS):
            self.assertNotEqual(program, other)
        self.assertEqual(Program(path, ()).stages, ())

    def test_wrong_stages(self):
        for stage in GOOD:
            self.assertEqual(Program(brute.COLOURS, (stage,)).stages, (stage,))
        for stage in BAD:
            for at in (0, 1, 199):
                stages = GOOD[:1] * at + (stage,) + GOOD[:1] * (199 - at)
                self.assertEqual(raised(BadProgram, Program, brute.COLOURS, stages).part, at)
                both = stages[:-1] + (None,)
                self.assertEqual(raised(BadProgram, Program, brute.COLOURS, both).part, at)
        for stages in (list(GOOD), None, "names", 3, {}, GOOD[:1] * 201, (None,) * 201, True):
            self.assertIsNone(raised(BadProgram, Program, brute.COLOURS, stages).part)
        self.assertEqual(len(Program(brute.COLOURS, GOOD[:1] * 200).stages), 200)
        for thing in STRANGE + (SideProblem(1, [], []),):
            self.assertIsNone(raised(BadProblem, Program, thing, None).part)

    def test_rounds(self):
        def told(*stages):
            return rounds_of(Program(brute.COLOURS, stages))

        self.assertEqual(told(), 0)
        self.assertEqual(told(("names",), ("all", 1)), 0)
        self.assertEqual(told(("whole", 7), ("whole", 9), ("whole", 3)), 9)
        self.assertEqual(told(("bits", 1), ("drop", 900, 2), ("stay", 4), ("clear", 8), ("fill", 2, 16)), 35)
        self.assertEqual(told(("stay", 4), ("whole", 7)), 8)
        self.assertEqual(told(("stay", 4), ("whole", 9)), 9)
        self.assertEqual(told(*[("stay", 10 ** 6)] * 200), 4 * 10 ** 8)
        # The first example of promise 87, made for three colours.
        thinning = (("names",),) + (("bits", 1),) * 4 + (("drop", 5, 1), ("drop", 4, 1), ("drop", 3, 1), ("stay", 1))
        self.assertEqual(told(("whole", 12), *thinning, ("fill", 0, 3)), 12)
        for thing in STRANGE + (brute.COLOURS, GOOD):
            self.assertIsNone(raised(BadProgram, rounds_of, thing).part)


def steps_of(states, step):
    sides = range(states + 1)
    return {(left, own, right): step(left, own, right) for left in sides for own in range(states) for right in sides}


class TestSteppers(unittest.TestCase):
    def test_attributes_and_equality(self):
        steps = steps_of(2, lambda left, own, right: right if right < 2 else 1 - own)
        shuffled = dict(sorted(steps.items(), reverse=True))
        first = [0, 1, 0]
        stepper = Stepper(states=2, first=first, steps=shuffled)
        self.assertEqual((stepper.states, stepper.first, stepper.steps), (2, (0, 1, 0), steps))
        self.assertEqual(list(stepper.steps), sorted(steps))
        self.assertEqual(len(steps), 18)
        again = copy.deepcopy(stepper)
        shuffled[(0, 0, 0)] = 1
        first.append(1)
        self.assertEqual(stepper, again)
        self.assertEqual((stepper.first, stepper.steps), ((0, 1, 0), steps))
        for other in (Stepper(2, (0, 1), steps), Stepper(2, (0, 1, 0), {**steps, (0, 0, 0): 1 - steps[(0, 0, 0)]}),
                      Stepper(3, (0, 1, 0), steps_of(3, lambda *_: 0)), None, steps):
            self.assertNotEqual(stepper, other)

    def test_wrong_parts(self):
        steps = steps_of(2, lambda *_: 0)
        for states in (0, 7, True, None, 1.0, "2", [2]):
            self.assertEqual(raised(BadWork, Stepper, states, None, None).part, "states")
        for first in ([], [2], [-1], [True], [0.0], [0] * 13, None, "00", {0: 1}, 0):
            self.assertEqual(raised(BadWork, Stepper, 2, first, None).part, "first")
        bent = [None, [], list(steps.items()), {}, {**steps, (0, 0, 0): 2}, {**steps, (0, 0, 0): -1},
                {**steps, (0, 0, 0): True}, {**steps, (0, 0, 0): None}, {**steps, (2, 2, 0): 0}, {**steps, (3, 0, 0): 0},
                {**steps, "a": 0}, {key: 0 for key in list(steps)[1:]}]
        bent.append({(True, 0, 0) if key == (1, 0, 0) else key: 0 for key in steps})
        bent.append({(1.0, 0, 0) if key == (1, 0, 0) else key: 0 for key in steps})
        for thing in bent:
            self.assertEqual(raised(BadWork, Stepper, 2, [0], thing).part, "steps")
        self.assertEqual(len(Stepper(6, [5] * 12, steps_of(6, lambda *_: 5)).steps), 7 * 6 * 7)
        self.assertEqual(Stepper(1, (0,), dict.fromkeys(itertools.product((0, 1), (0,), (0, 1)), 0)).states, 1)


if __name__ == "__main__":
    unittest.main()
