"""Promise 76: logs of houses, cut anywhere and with bytes that changed."""

import itertools
import random
import unittest

from roundwright.errors import BadBytes, BadLog, BadNumber, BadWork
from roundwright.houselogs import log_of, read_log
from roundwright.steppers import Stepper
from tests.brute import STRANGE, raised


def stepper_of(states, first, step=lambda left, own, right: own):
    sides = range(states + 1)
    return Stepper(states, first, {(left, own, right): step(left, own, right)
                                   for left in sides for own in range(states) for right in sides})


SMALL = stepper_of(2, (1, 0))
GREAT = stepper_of(6, (3,))


def slow_slot(number, state):
    return [number % 256, number // 256, state, number % 256 ^ number // 256 ^ state ^ 165]


def slow_is_log(stepper, name, thing):
    """Whether bytes are a log: of some first number, and each slot one number on."""
    if len(thing) % 4 or not thing:
        return False
    first = thing[0] + 256 * thing[1]
    for at in range(0, len(thing), 4):
        number = first + at // 4
        if number > 400 or thing[at + 2] >= stepper.states or list(thing[at:at + 4]) != slow_slot(number, thing[at + 2]):
            return False
    return first > 0 or thing[2] == stepper.first[name % len(stepper.first)]


def slow_read(stepper, name, thing):
    thing = list(thing)
    good = max([many for many in range(4, len(thing) + 1, 4) if slow_is_log(stepper, name, thing[:many])], default=0)
    first = thing[0] + 256 * thing[1] if good else 0
    why = "whole"
    if good < len(thing):
        rest = thing[good:]
        numbers = [first + good // 4] if good else range(401)
        on = [slow_slot(number, state) for number in numbers for state in range(stepper.states)]
        torn = any(len(rest) < 4 and slot[:len(rest)] == rest and slow_is_log(stepper, name, thing[:good] + slot)
                   for slot in on)
        why = "torn" if torn else "strange"
    return (first, tuple(thing[2:good:4]), good, why)


class TestLogs(unittest.TestCase):
    def test_by_hand(self):
        self.assertEqual(log_of(SMALL, 4, 0, [1, 0]), (0, 0, 1, 164, 1, 0, 0, 164))
        self.assertEqual(log_of(SMALL, 3, 300, (1,)), (44, 1, 1, 44 ^ 165))
        self.assertEqual(read_log(SMALL, 4, [0, 0, 1, 164, 1, 0, 0, 164]), (0, (1, 0), 8, "whole"))
        self.assertEqual(read_log(SMALL, 4, ()), (0, (), 0, "whole"))
        self.assertEqual(read_log(SMALL, 3, (0, 0, 1, 164)), (0, (), 0, "strange"))
        self.assertEqual(read_log(SMALL, 4, (0, 0, 1)), (0, (), 0, "torn"))
        self.assertEqual(read_log(SMALL, 3, (0, 0, 1)), (0, (), 0, "strange"))
        self.assertEqual(read_log(SMALL, 3, (144, 1)), (0, (), 0, "torn"))
        self.assertEqual(read_log(SMALL, 3, (145, 1)), (0, (), 0, "strange"))
        last = log_of(SMALL, 3, 400, [0])
        self.assertEqual(read_log(SMALL, 3, last), (400, (0,), 4, "whole"))
        self.assertEqual(read_log(SMALL, 3, last + (145,)), (400, (0,), 4, "strange"))
        self.assertEqual(read_log(SMALL, 3, last + last), (400, (0,), 4, "strange"))

    def test_against_words_of_the_document(self):
        rng = random.Random(701)
        for _ in range(1500):
            stepper, name = rng.choice((SMALL, GREAT)), rng.randint(1, 9)
            first = rng.choice((0, 0, 1, 143, 254, 255, 256, 399, 400))
            thing = []
            for at in range(rng.randint(0, 4)):
                state = rng.choice((stepper.first[name % len(stepper.first)], rng.randrange(stepper.states)))
                thing += slow_slot(first + at, state)
            if rng.random() < 0.4 and thing:
                thing[rng.randrange(len(thing))] = rng.choice((0, 1, 2, 5, 6, 164, 165, 255))
            thing = thing[:rng.randint(0, len(thing))] if rng.random() < 0.5 else thing
            self.assertEqual(read_log(stepper, name, thing), slow_read(stepper, name, thing), thing)
        for thing in itertools.product((0, 1, 2, 164, 165), repeat=3):
            for many in range(4):
                self.assertEqual(read_log(SMALL, 2, thing[:many]), slow_read(SMALL, 2, thing[:many]))

    def test_cut_at_each_byte(self):
        rng = random.Random(702)
        for stepper, first, many in ((SMALL, 0, 12), (GREAT, 250, 12), (GREAT, 390, 11)):
            states = [stepper.first[1 % len(stepper.first)]] + [rng.randrange(stepper.states) for _ in range(many - 1)]
            log = log_of(stepper, 1, first, states)
            self.assertIs(slow_is_log(stepper, 1, log), True)
            for cut in range(len(log) + 1):
                whole = cut // 4
                expected = (first if whole else 0, tuple(states[:whole]), 4 * whole, "torn" if cut % 4 else "whole")
                self.assertEqual(read_log(stepper, 1, log[:cut]), expected)
            for at in range(len(log)):
                for byte in range(256):
                    if byte == log[at]:
                        continue
                    whole = at // 4
                    bent = log[:at] + (byte,) + log[at + 1:]
                    expected = (first if whole else 0, tuple(states[:whole]), 4 * whole, "strange")
                    self.assertEqual(read_log(stepper, 1, bent), expected)

    def test_whole_logs(self):
        rng = random.Random(703)
        states = [3] + [rng.randrange(6) for _ in range(400)]
        log = log_of(GREAT, 10 ** 9, 0, states)
        self.assertEqual(len(log), 1604)
        self.assertEqual(read_log(GREAT, 10 ** 9, list(log)), (0, tuple(states), 1604, "whole"))
        for cut in range(0, 1605, 7):
            self.assertEqual(read_log(GREAT, 10 ** 9, log[:cut])[2:], (cut // 4 * 4, "torn" if cut % 4 else "whole"))
        for at in range(0, 1604, 5):
            bent = log[:at] + (log[at] ^ rng.randint(1, 255),) + log[at + 1:]
            self.assertEqual(read_log(GREAT, 10 ** 9, bent), (0, tuple(states[:at // 4]), at // 4 * 4, "strange"))
        self.assertEqual(len(log_of(GREAT, 1, 1, states[1:])), 1600)
        self.assertIsNone(raised(BadLog, log_of, GREAT, 1, 1, states).at)
        self.assertIsNone(raised(BadLog, log_of, GREAT, 1, 0, states + [0]).at)

    def test_wrong_values(self):
        for thing in STRANGE:
            self.assertIsNone(raised(BadWork, log_of, thing, None, None, None).part)
            self.assertIsNone(raised(BadWork, read_log, thing, None, None).part)
        for name in (0, 10 ** 9 + 1, True, None, 1.0):
            self.assertEqual(raised(BadNumber, log_of, SMALL, name, -1, None).part, "name")
            self.assertEqual(raised(BadNumber, read_log, SMALL, name, None).part, "name")
        for first in (-1, 401, True, None, 0.0):
            self.assertEqual(raised(BadNumber, log_of, SMALL, 1, first, None).part, "first")
        for states in (None, 3, "01", [], (), [2], [-1], [True], [0.0], [1], {0: 0}, [0, None]):
            self.assertIsNone(raised(BadLog, log_of, SMALL, 1, 0, states).at)
        self.assertIsNone(raised(BadLog, log_of, SMALL, 1, 400, [0, 0]).at)
        for thing in (None, 3, "ab", b"ab", [256], [-1], [True], [0.0], [None], {0}, (0, 0, 1, 164, 256)):
            raised(BadBytes, read_log, SMALL, 1, thing)
        states = [0, 1]
        told = log_of(stepper=SMALL, name=1, first=0, states=states)
        states[0] = 1
        self.assertEqual(read_log(stepper=SMALL, name=1, thing=told)[1], (0, 1))


if __name__ == "__main__":
    unittest.main()
