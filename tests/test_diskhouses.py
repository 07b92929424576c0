"""Promises 77 and 78: houses with disks, that fall and go on."""

import random
import unittest

from roundwright.diskhouses import DiskHouse, fallen_house
from roundwright.errors import BadBytes, BadHouse, BadLog, BadNumber, BadWork, NotNow, TooMany
from roundwright.goings import end_of, held_up
from roundwright.houselogs import log_of, read_log

from tests.brute import STRANGE, raised
from tests.test_fronts import beside
from tests.test_houselogs import SMALL, stepper_of

MIXED = stepper_of(3, (0, 1, 2, 2), lambda left, own, right: (left + 2 * own + right) % 3)
PARTS = ("stepper", "name", "sides", "first", "states", "rounds", "sure", "late")


def seen(house):
    return tuple(getattr(house, part) for part in PARTS)


def slow_rounds(stepper, kind, net, rounds):
    """The states of all houses after 0, 1, .. rounds."""
    states = [stepper.first[name % len(stepper.first)] for name in net]
    line = [tuple(states)]
    for _ in range(rounds):
        around = []
        for at in range(len(net)):
            ends = [beside(kind, len(net), at, side) for side in (0, 1)]
            told = [stepper.states if end is None else line[-1][end] for end in ends]
            around.append(stepper.steps[(told[0], line[-1][at], told[1])])
        line.append(tuple(around))
    return line


class TestDiskHouse(unittest.TestCase):
    def test_at_first(self):
        house = DiskHouse(stepper=MIXED, name=5, sides=(True, False), thing=[])
        self.assertEqual(seen(house), (MIXED, 5, (True, False), 0, (1,), 0, log_of(MIXED, 5, 0, [1]), ()))
        log = log_of(MIXED, 5, 0, [1, 2, 0])
        house = DiskHouse(MIXED, 5, (True, False), list(log) + [3, 0])
        self.assertEqual(seen(house), (MIXED, 5, (True, False), 0, (1, 2, 0), 2, log, ()))
        house = DiskHouse(MIXED, 5, (False, False), log_of(MIXED, 5, 7, [2, 2]))
        self.assertEqual((house.first, house.states, house.rounds), (7, (2, 2), 8))
        self.assertEqual(DiskHouse(MIXED, 5, (True, True), (9, 0, 2)).rounds, 0)
        thing = list(log)
        house = DiskHouse(MIXED, 5, (True, True), thing)
        thing[0] = 99
        self.assertEqual(house.sure, log)
        self.assertNotEqual(house, DiskHouse(MIXED, 5, (True, True), log).sure)

    def test_rounds(self):
        house = DiskHouse(MIXED, 1, (True, True), ())
        raised(NotNow, house.go)
        self.assertIs(house.take(0, 0, 2), True)
        self.assertIs(house.take(0, 0, 1), False)
        self.assertIs(house.take(side=0, number=1, state=0), True)
        self.assertIs(house.take(0, 2, 0), False)
        raised(NotNow, house.go)
        self.assertIs(house.take(1, 0, 1), True)
        self.assertIsNone(house.go())
        self.assertEqual((house.rounds, house.states, house.late), (1, (1, (2 + 2 + 1) % 3), log_of(MIXED, 1, 1, [2])))
        self.assertEqual((house.told(0), house.told(1), house.told(2)), (1, None, None))
        # What it knew of two rounds it knows of one, and what it knew of one is gone.
        self.assertIs(house.take(0, 1, 1), False)
        self.assertIs(house.take(0, 0, 1), False)
        self.assertIs(house.take(1, 1, 1), True)
        self.assertIsNone(house.sync())
        self.assertEqual((house.told(1), house.late), (2, ()))
        house.go()
        self.assertEqual(house.states, (1, 2, (0 + 4 + 1) % 3))
        self.assertIsNone(house.trim(1))
        self.assertEqual((house.first, house.states, house.rounds), (1, (2, 2), 2))
        self.assertEqual((house.told(0), house.told(1), house.told(2)), (None, 2, None))
        self.assertEqual(house.sure + house.late, log_of(MIXED, 1, 1, [2, 2]))
        raised(NotNow, house.trim, 2)
        raised(NotNow, house.trim, 0)

    def test_nobody_beside_it(self):
        alone = DiskHouse(SMALL, 2, (False, False), ())
        for _ in range(400):
            alone.go()
        self.assertEqual(raised(TooMany, alone.go).most, 400)
        self.assertEqual(alone.rounds, 400)
        alone.sync()
        self.assertEqual(len(alone.sure), 1604)
        alone.trim(400)
        self.assertEqual((alone.first, alone.states, len(alone.sure)), (400, (1,), 4))
        again = DiskHouse(SMALL, 2, (True, False), alone.sure)
        self.assertEqual((again.first, again.rounds, again.told(400)), (400, 400, 1))
        raised(NotNow, again.go)
        self.assertIs(again.take(0, 400, 0), True)
        self.assertEqual(raised(TooMany, again.go).most, 400)
        for side in (0, 1):
            self.assertEqual(raised(BadNumber, alone.take, side, None, None).part, "side")

    def test_errors_change_nothing(self):
        house = DiskHouse(MIXED, 1, (True, False), log_of(MIXED, 1, 0, [1, 1, 1]))
        house.take(0, 2, 1)
        house.go()
        before = seen(house)
        for side in (1, -1, 2, True, False, None, 0.0, "0"):
            self.assertEqual(raised(BadNumber, house.take, side, -1, -1).part, "side")
        for number in (-1, 401, True, None, 0.0):
            self.assertEqual(raised(BadNumber, house.take, 0, number, -1).part, "number")
            self.assertEqual(raised(BadNumber, house.told, number).part, "number")
            self.assertEqual(raised(BadNumber, house.trim, number).part, "number")
        for state in (-1, 3, True, None, 0.0):
            self.assertEqual(raised(BadNumber, house.take, 0, 0, state).part, "state")
        for number in (3, 4, 400):
            raised(NotNow, house.trim, number)
        raised(NotNow, house.go)
        self.assertEqual(seen(house), before)
        self.assertIs(house.take(0, 3, 2), True)

    def test_wrong_values(self):
        for thing in STRANGE:
            self.assertIsNone(raised(BadWork, DiskHouse, thing, None, None, None).part)
            raised(BadHouse, fallen_house, thing, None)
        for name in (0, 10 ** 9 + 1, True, None):
            self.assertEqual(raised(BadNumber, DiskHouse, MIXED, name, None, None).part, "name")
        for sides in (None, True, (), (True,), (True, True, True), [True, False], (1, 0), (True, 0), (None, True), "ab"):
            self.assertEqual(raised(BadNumber, DiskHouse, MIXED, 1, sides, None).part, "sides")
        for thing in (None, 3, "ab", b"", [256], [-1], [True], [0.0], {0}):
            raised(BadBytes, DiskHouse, MIXED, 1, (True, True), thing)
        log = log_of(MIXED, 1, 0, [1, 0, 2])
        for at in range(12):
            bent = log[:at] + (log[at] ^ 1,) + log[at + 1:]
            self.assertEqual(raised(BadLog, DiskHouse, MIXED, 1, (True, True), bent).at, at // 4 * 4)
        for cut in range(13):
            house = DiskHouse(MIXED, 1, (True, True), log[:cut])
            self.assertEqual(house.states, (1, 0, 2)[:max(1, cut // 4)])
            self.assertEqual(house.sure, log[:max(4, cut // 4 * 4)])
        house = DiskHouse(MIXED, 1, (False, False), log)
        house.go()
        for kept in (-1, 5, True, None, 1.0):
            self.assertEqual(raised(BadNumber, fallen_house, house, kept).part, "kept")
        for kept in range(5):
            found = fallen_house(house=house, kept=kept)
            self.assertEqual(found, house.sure + house.late[:kept])
            self.assertEqual(DiskHouse(MIXED, 1, (False, False), found).rounds, 3 if kept == 4 else 2)


class TestManyHouses(unittest.TestCase):
    def sides_of(self, kind, size, at):
        return tuple(beside(kind, size, at, side) is not None for side in (0, 1))

    def exchange(self, rng, kind, net, houses, rounds, told_is_enough):
        """Houses tell one another what they keep, in any order, and do rounds, until nothing changes."""
        size = len(net)
        changed = True
        while changed:
            changed = False
            for at in rng.sample(range(size), size):
                for side in (0, 1):
                    other = beside(kind, size, at, side)
                    if other is None:
                        continue
                    for number in rng.sample((houses[at].rounds, houses[at].rounds + 1), 2):
                        if number > 400:
                            continue
                        place = number - houses[other].first
                        known = 0 <= place < len(houses[other].states)
                        state = houses[other].told(number) if told_is_enough else (
                            houses[other].states[place] if known else None)
                        if state is not None:
                            changed = houses[at].take(side, number, state) or changed
                if houses[at].rounds < rounds:
                    try:
                        houses[at].go()
                        changed = True
                    except NotNow:
                        pass
                if rng.random() < 0.5 or told_is_enough:
                    changed = houses[at].late != () or changed
                    houses[at].sync()

    def test_never_taken_back(self):
        # Houses tell what is sure alone, and fall with any bytes kept: all that is kept is as in rounds.
        rng = random.Random(901)
        for kind in ("ring", "path"):
            for size in (1, 2, 3, 5):
                net = tuple(rng.sample(range(1, 50), size))
                line = slow_rounds(MIXED, kind, net, 12)
                houses = [DiskHouse(MIXED, name, self.sides_of(kind, size, at), ()) for at, name in enumerate(net)]
                told = [{} for _ in net]
                for _ in range(2500):
                    self.one_deed(rng, kind, net, houses, told)
                    for at, house in enumerate(houses):
                        self.assertEqual(house.states, tuple(
                            line[number][at] for number in range(house.first, house.rounds + 1)))
                        for number, state in told[at].items():
                            self.assertEqual(house.told(number), state)
                self.assertGreater(min(house.rounds for house in houses), 2)

    def one_deed(self, rng, kind, net, houses, told):
        at = rng.randrange(len(net))
        house = houses[at]
        deed = rng.random()
        if deed < 0.5:
            side = rng.choice((0, 1))
            other = beside(kind, len(net), at, side)
            number = house.rounds + rng.choice((-1, 0, 1, 1, 2))
            if other is not None and 0 <= number <= 12 and houses[other].told(number) is not None:
                told[other][number] = houses[other].told(number)
                house.take(side, number, houses[other].told(number))
        elif deed < 0.8 and house.rounds < 12:
            try:
                house.go()
            except NotNow:
                pass
        elif deed < 0.9:
            house.sync()
        elif deed < 0.93:
            # What a neighbour may still have to hear again, when it falls, is not trimmed.
            beside_it = [beside(kind, len(net), at, side) for side in (0, 1)]
            ends = [houses[other].first + len(houses[other].sure) // 4 - 1 for other in beside_it if other is not None]
            number = max(house.first, min(ends + [house.first + len(house.sure) // 4 - 1]))
            house.trim(number)
            for earlier in [earlier for earlier in told[at] if earlier < number]:
                del told[at][earlier]
        elif deed > 0.985:
            found = fallen_house(house, rng.randint(0, len(house.late)))
            houses[at] = DiskHouse(MIXED, net[at], house.sides, found)

    def test_cut_anywhere_they_come_to_end_of(self):
        rng = random.Random(902)
        held = 0
        for kind in ("ring", "path"):
            for size in (1, 2, 3, 4, 6):
                for _ in range(25):
                    net = tuple(rng.sample(range(1, 99), size))
                    rounds = rng.randint(4, 7)
                    line = slow_rounds(MIXED, kind, net, rounds)
                    houses = []
                    for at, name in enumerate(net):
                        first = rng.choice((0, 0, 1, 2))
                        log = log_of(MIXED, name, first, [line[n][at] for n in range(first, rng.randint(first, 4) + 1)])
                        cut = rng.choice((len(log), rng.randint(0, len(log))))
                        houses.append(DiskHouse(MIXED, name, self.sides_of(kind, size, at), log[:cut]))
                    spans = [(house.first, house.rounds) for house in houses]
                    held += held_up(kind, spans) != ()
                    ends = end_of(kind, spans, rounds)
                    self.exchange(rng, kind, net, houses, rounds, rng.random() < 0.5)
                    self.assertEqual(tuple(house.rounds for house in houses), ends)
                    for at, house in enumerate(houses):
                        self.assertEqual(house.states, tuple(
                            line[number][at] for number in range(house.first, house.rounds + 1)))
                    if rounds > max(last for _, last in spans):
                        self.assertIs(ends == (rounds,) * size, held_up(kind, spans) == ())
        self.assertGreater(held, 20)

    def test_a_house_beside_itself(self):
        house = DiskHouse(MIXED, 7, (True, True), ())
        line = slow_rounds(MIXED, "ring", (7,), 400)
        for number in range(400):
            for side in (0, 1):
                house.take(side, number, house.states[-1])
            house.go()
        self.assertEqual(house.states, tuple(states[0] for states in line))
        self.assertEqual(read_log(MIXED, 7, house.sure + house.late), (0, house.states, 1604, "whole"))


if __name__ == "__main__":
    unittest.main()
