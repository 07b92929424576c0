"""Promises 71, 73, 74 and 78: fronts, the letters that are needed, the ends to which houses come."""

import itertools
import random
import unittest

from roundwright.cones import fewest_lost, how_many_needed, last_front, needed
from roundwright.errors import BadFront, BadLetters, BadNumber, BadSpans, TooMany
from roundwright.fronts import (
    first_front_above, front_leads, fronts_between, how_many_fronts, is_front, last_front_below, orders_to)
from roundwright.goings import end_of, held_up, safe_firsts
from tests.brute import STRANGE, raised

KINDS = ("ring", "path")
NO_KIND = (None, True, 0, "Ring", "", "rings", b"ring", ["ring"], ("ring",), {}, {"ring"}, object())


def beside(kind, size, place, side):
    """The neighbour at a side, None if nobody stands there."""
    other = place + (1 if side else -1)
    if kind == "ring":
        return other % size
    return other if 0 <= other < size else None


def near(kind, size, place):
    return [other for other in (beside(kind, size, place, 0), beside(kind, size, place, 1)) if other is not None]


def apart(kind, size, one, other):
    steps, held = 0, {one}
    while other not in held:
        held |= {third for place in held for third in near(kind, size, place)}
        steps += 1
    return steps


def slow_front(kind, numbers):
    size = len(numbers)
    return all(abs(numbers[at] - numbers[other]) <= 1 for at in range(size) for other in near(kind, size, at))


def all_fronts(kind, size, most):
    return [line for line in itertools.product(range(most + 1), repeat=size) if slow_front(kind, line)]


def one_round_on(kind, front):
    found = [front[:at] + (front[at] + 1,) + front[at + 1:] for at in range(len(front))]
    return [line for line in found if slow_front(kind, line)]


class TestFronts(unittest.TestCase):
    def test_is_front(self):
        for kind in KINDS:
            for size in range(1, 6):
                for line in itertools.product(range(3), repeat=size):
                    self.assertIs(is_front(kind, line), slow_front(kind, line))
        self.assertIs(is_front("path", (0, 1, 2)), True)
        self.assertIs(is_front("ring", (0, 1, 2)), False)
        self.assertIs(is_front("ring", (0, 2)), False)
        self.assertIs(is_front("ring", (400,)), True)
        self.assertIs(is_front("path", tuple(range(400))), True)
        for thing in STRANGE + ((), (401,), (-1,), (True,), (0, True), (0.0,), [0], (0,) * 401, "0"):
            self.assertIs(is_front("ring", thing), False)
        for kind in NO_KIND:
            self.assertEqual(raised(BadNumber, is_front, kind, None).part, "kind")

    def test_leads_by_single_rounds(self):
        for kind in KINDS:
            for size in (1, 2, 3, 4):
                every = all_fronts(kind, size, 3)
                for one in every[:40]:
                    reached, waiting = {one}, [one]
                    while waiting:
                        for later in one_round_on(kind, waiting.pop()):
                            if max(later) <= 3 and later not in reached:
                                reached.add(later)
                                waiting.append(later)
                    for other in every:
                        self.assertIs(front_leads(kind, one, other), other in reached)
                        self.assertIs(front_leads(kind, one, other), all(a <= b for a, b in zip(one, other)))
                        less, more = fronts_between(kind, one, other)
                        self.assertEqual(less, tuple(map(min, zip(one, other))))
                        self.assertEqual(more, tuple(map(max, zip(one, other))))
                        self.assertTrue(slow_front(kind, less) and slow_front(kind, more))
        self.assertIs(front_leads("ring", (0,) * 400, (400,) * 400), True)

    def test_how_many(self):
        for kind in KINDS:
            for size in range(1, 6):
                for rounds in range(4):
                    self.assertEqual(how_many_fronts(kind, size, rounds), len(all_fronts(kind, size, rounds)))
            self.assertEqual(how_many_fronts(kind, 1, 40), 41)
            self.assertEqual(how_many_fronts(kind, 400, 0), 1)
        self.assertEqual(how_many_fronts("path", 400, 1), 2 ** 400)
        self.assertEqual(how_many_fronts("ring", 400, 1), 2 ** 400)
        self.assertGreater(how_many_fronts("path", 400, 40), how_many_fronts("ring", 400, 40))
        for size in (0, 401, True, None, 1.0):
            self.assertEqual(raised(BadNumber, how_many_fronts, "ring", size, None).part, "size")
        for rounds in (-1, 41, True, None, 1.0):
            self.assertEqual(raised(BadNumber, how_many_fronts, "ring", 1, rounds).part, "rounds")

    def test_orders(self):
        for kind in KINDS:
            for size in (1, 2, 3, 4):
                every = sorted(all_fronts(kind, size, 3), key=sum)
                orders = {(0,) * size: 1}
                for front in every:
                    for later in one_round_on(kind, front):
                        orders[later] = orders.get(later, 0) + orders[front]
                for front in every:
                    self.assertEqual(orders_to(kind, front), orders[front])
        self.assertEqual(orders_to("ring", (0,) * 400), 1)
        self.assertEqual(orders_to("ring", (1,) + (0,) * 399), 1)
        self.assertEqual(orders_to("path", (400,)), 1)
        self.assertEqual(orders_to("ring", (1,) * 12), 479001600)

    def test_too_many_orders(self):
        # Houses at 0 and 1: so many fronts as sets of houses at 1; a path 0 1 1 .. 1 has 2 ** of them.
        for kind in KINDS:
            self.assertEqual(raised(TooMany, orders_to, kind, (1,) * 13).most, 5000)
            self.assertEqual(raised(TooMany, orders_to, kind, (1,) * 400).most, 5000)
            self.assertEqual(raised(TooMany, orders_to, kind, (400,) * 400).most, 5000)
        found = set()
        for kind in KINDS:
            for size in (2, 3, 4, 5, 6):
                for top in range(1, 60):
                    many = how_many_fronts(kind, size, top) if top <= 40 else None
                    if many is not None and many <= 5000:
                        self.assertGreater(orders_to(kind, (top,) * size), 0)
                        found.add("few")
                    elif many is not None:
                        self.assertEqual(raised(TooMany, orders_to, kind, (top,) * size).most, 5000)
                        found.add("many")
                        break
        self.assertEqual(found, {"few", "many"})

    def test_just_five_thousand(self):
        few, many = (3, 3, 2, 2, 3, 2, 2, 1, 0, 0, 1, 1), (2, 3, 2, 3, 3, 4, 3, 3, 2)
        self.assertEqual((self.many_below(few), self.many_below(many)), (5000, 5001))
        self.assertGreater(orders_to("path", few), 0)
        self.assertEqual(raised(TooMany, orders_to, "path", many).most, 5000)

    def many_below(self, front):
        ways = {number: 1 for number in range(front[0] + 1)}
        for most in front[1:]:
            ways = {number: sum(ways.get(number + step, 0) for step in (-1, 0, 1)) for number in range(most + 1)}
        return sum(ways.values())

    def test_below_and_above(self):
        rng = random.Random(601)
        for kind in KINDS:
            for size in (1, 2, 3, 4, 5):
                every = all_fronts(kind, size, 4)
                for _ in range(30):
                    numbers = tuple(rng.randint(0, 4) for _ in range(size))
                    below, above = last_front_below(kind, numbers), first_front_above(kind, numbers)
                    distances = [[apart(kind, size, at, by) for by in range(size)] for at in range(size)]
                    self.assertEqual(below, tuple(min(n + d for n, d in zip(numbers, row)) for row in distances))
                    self.assertEqual(above, tuple(max(n - d for n, d in zip(numbers, row)) for row in distances))
                    under = [front for front in every if all(a <= b for a, b in zip(front, numbers))]
                    over = [front for front in every if all(a >= b for a, b in zip(front, numbers))]
                    self.assertIn(below, under)
                    self.assertIn(above, over)
                    self.assertTrue(all(all(a <= b for a, b in zip(front, below)) for front in under))
                    self.assertTrue(all(all(a >= b for a, b in zip(front, above)) for front in over))
        self.assertEqual(last_front_below("path", (0,) + (400,) * 399), tuple(range(400)))
        self.assertEqual(last_front_below("ring", (400,) * 200 + (0,) + (400,) * 199)[:3], (200, 199, 198))
        self.assertEqual(first_front_above("ring", (400,) + (0,) * 399)[:3], (400, 399, 398))
        self.assertEqual(first_front_above("ring", (400,) + (0,) * 399)[-1], 399)

    def test_wrong_values(self):
        bad = STRANGE + ((), (401,), (True,), [0], (0,) * 401)
        for kind in NO_KIND:
            for call, many in ((front_leads, 2), (fronts_between, 2), (how_many_fronts, 2), (orders_to, 1),
                               (last_front_below, 1), (first_front_above, 1), (needed, 3), (how_many_needed, 3),
                               (last_front, 3), (fewest_lost, 2), (held_up, 1), (end_of, 2), (safe_firsts, 1)):
                self.assertEqual(raised(BadNumber, call, kind, *[None] * many).part, "kind")
        for kind in KINDS:
            for thing in bad + ((0, 2),):
                for call in (front_leads, fronts_between):
                    raised(BadFront, call, kind, thing, (0,))
                    raised(BadFront, call, kind, (0,), other=thing)
                raised(BadFront, orders_to, kind, thing)
                raised(BadFront, fewest_lost, kind, thing, None)
            for thing in bad:
                raised(BadFront, last_front_below, kind, thing)
                raised(BadFront, first_front_above, kind, thing)
            raised(BadFront, front_leads, kind, (0, 0), (0,))
            raised(BadFront, fronts_between, kind, (0, 0), (0,))
        self.assertEqual(last_front_below("ring", (0, 400)), (0, 1))


def letters_of(kind, size, most):
    return [(place, side, number) for place in range(size) for side in (0, 1)
            if beside(kind, size, place, side) is not None for number in range(most)]


def ends_without(kind, size, rounds, lost):
    """Where houses come to that hear all letters but those lost, round by round."""
    front = [0] * size
    while True:
        later = list(front)
        for place in range(size):
            heard = all(front[beside(kind, size, place, side)] >= front[place]
                        and (place, side, front[place]) not in lost
                        for side in (0, 1) if beside(kind, size, place, side) is not None)
            if front[place] < rounds and heard:
                later[place] += 1
        if later == front:
            return tuple(front)
        front = later


class TestCones(unittest.TestCase):
    def test_needed_one_by_one(self):
        for kind in KINDS:
            for size in range(1, 6):
                for rounds in range(4):
                    letters = letters_of(kind, size, 5)
                    for place in range(size):
                        want = tuple(letter for letter in letters
                                     if ends_without(kind, size, rounds, {letter})[place] < rounds)
                        self.assertEqual(needed(kind, size, place, rounds), want)
                        self.assertEqual(how_many_needed(kind, size, place, rounds), len(want))

    def test_many_needed(self):
        for rounds in range(1, 12):
            for size in (2 * rounds - 1, 2 * rounds, 400):
                self.assertEqual(how_many_needed("ring", size, size // 2, rounds), 2 * rounds ** 2)
        self.assertEqual(len(needed("ring", 199, 0, 100)), 20000)
        self.assertEqual(len(needed("ring", 400, 399, 100)), 20000)
        self.assertEqual(raised(TooMany, needed, "ring", 400, 0, 101).most, 20000)
        self.assertEqual(raised(TooMany, needed, "path", 400, 200, 400).most, 20000)
        self.assertEqual(len(needed("ring", 1, 0, 400)), 800)
        self.assertEqual(needed("path", 1, 0, 400), ())
        self.assertEqual(how_many_needed("path", 1, 0, 10 ** 9), 0)
        self.assertEqual(how_many_needed("ring", 1, 0, 10 ** 9), 2 * 10 ** 9)
        self.assertEqual(how_many_needed("path", 2, 1, 10 ** 9), 2 * 10 ** 9 - 1)
        expected = sum(2 * (10 ** 9 - min(at, 400 - at)) for at in range(400))
        self.assertEqual(how_many_needed("ring", 400, 7, 10 ** 9), sum(2 * (10 ** 9 - min(at, 400 - at))
                                                                       for at in range(400)))
        self.assertEqual(expected, how_many_needed("ring", 400, 0, 10 ** 9))
        # One letter more than 20000: a path of 400 houses, and the house at its end.
        just = max(rounds for rounds in range(400) if how_many_needed("path", 400, 0, rounds) <= 20000)
        self.assertEqual(len(needed("path", 400, 0, just)), how_many_needed("path", 400, 0, just))
        raised(TooMany, needed, "path", 400, 0, just + 1)

    def test_lost_letters(self):
        rng = random.Random(602)
        for kind in KINDS:
            for size in range(1, 6):
                letters = letters_of(kind, size, 6)
                for _ in range(60):
                    rounds = rng.randint(0, 5)
                    lost = [rng.choice(letters) for _ in range(rng.randint(0, 4))] if letters else []
                    before = list(lost)
                    front = last_front(kind, size, rounds, lost)
                    self.assertEqual(front, ends_without(kind, size, rounds, set(lost)))
                    self.assertEqual(lost, before)
        self.assertEqual(last_front("path", 400, 400, [(0, 1, 0)]), tuple(range(400)))
        self.assertEqual(last_front("ring", 400, 400, ()), (400,) * 400)

    def test_fewest(self):
        for kind in KINDS:
            for size in range(1, 4):
                for front in all_fronts(kind, size, 2):
                    for rounds in range(max(front), 4):
                        lost = fewest_lost(kind, front, rounds)
                        letters = letters_of(kind, size, 4)
                        fewest = next((many for many in range(size + 1) for group in itertools.combinations(letters, many)
                                       if ends_without(kind, size, rounds, set(group)) == front), None)
                        if lost is None:
                            self.assertIsNone(fewest)
                            self.assertEqual((kind, size), ("path", 1))
                            continue
                        self.assertEqual(len(lost), fewest)
                        self.assertEqual(last_front(kind, size, rounds, lost), front)
                        self.assertEqual(lost, tuple(sorted(lost)))
                        for place, side, number in lost:
                            self.assertEqual(side, 0 if beside(kind, size, place, 0) is not None else 1)
                            self.assertEqual(number, front[place])
        self.assertEqual(fewest_lost("path", tuple(range(400)), 400), ((0, 1, 0),))
        self.assertEqual(fewest_lost("ring", (400,) * 400, 400), ())
        self.assertEqual(len(fewest_lost("ring", (399,) * 400, 400)), 400)
        self.assertIsNone(fewest_lost("path", (0,), 1))
        self.assertEqual(fewest_lost("path", (1,), 1), ())
        self.assertEqual(fewest_lost("ring", (0,), 1), ((0, 0, 0),))

    def test_wrong_values(self):
        for call in (needed, how_many_needed, last_front):
            for size in (0, 401, True, None, 1.0):
                self.assertEqual(raised(BadNumber, call, "ring", size, None, None).part, "size")
        for call, most in ((needed, 400), (how_many_needed, 10 ** 9)):
            for place in (-1, 3, True, None, 0.0):
                self.assertEqual(raised(BadNumber, call, "ring", 3, place, -1).part, "place")
            for rounds in (-1, most + 1, True, None, 0.0):
                self.assertEqual(raised(BadNumber, call, "ring", 400, 0, rounds).part, "rounds")
        for rounds in (-1, 401, True, None, 0.0):
            self.assertEqual(raised(BadNumber, last_front, "ring", 400, rounds, None).part, "rounds")
        for lost in (None, 3, "abc", {(0, 0, 0)}, [(0, 0)], [[0, 0, 0]], [(0, 2, 0)], [(3, 0, 0)], [(0, 0, 401)],
                     [(0, 0, -1)], [(True, 0, 0)], [(0, True, 0)], [(0, 0, True)], [(0, 0, 0, 0)], [None],
                     [(0, 0, 0), (0, 0, 0.0)]):
            raised(BadLetters, last_front, "ring", 3, 1, lost)
        for lost in ([(0, 0, 0)], [(2, 1, 0)]):
            raised(BadLetters, last_front, "path", 3, 1, lost)
        raised(BadLetters, last_front, "path", 1, 1, [(0, 1, 0)])
        for rounds in (1, 401, True, None, 2.0):
            self.assertEqual(raised(BadNumber, fewest_lost, "ring", (2, 2), rounds).part, "rounds")


def slow_end(kind, spans, rounds, rng):
    """Houses do rounds in any order, as long as some can."""
    size = len(spans)
    lasts = [last for _, last in spans]
    while True:
        able = [at for at in range(size) if lasts[at] < rounds and all(
            spans[other][0] <= lasts[at] <= lasts[other] for other in near(kind, size, at))]
        if not able:
            return tuple(lasts)
        lasts[rng.choice(able)] += 1


class TestGoings(unittest.TestCase):
    def test_against_single_rounds(self):
        rng = random.Random(603)
        for kind in KINDS:
            for size in range(1, 7):
                for _ in range(80):
                    spans = []
                    for _ in range(size):
                        last = rng.randint(0, 6)
                        spans.append((rng.randint(0, last) if rng.random() < 0.4 else 0, last))
                    rounds = rng.randint(max(last for _, last in spans), 8)
                    held = tuple(at for at in range(size)
                                 if any(spans[other][0] > spans[at][1] for other in near(kind, size, at)))
                    self.assertEqual(held_up(kind, spans), held)
                    ends = end_of(kind, spans, rounds)
                    self.assertEqual(ends, slow_end(kind, spans, rounds, rng))
                    self.assertEqual(ends, slow_end(kind, spans, rounds, rng))
                    if rounds > max(last for _, last in spans):
                        self.assertIs(held == (), ends == (rounds,) * size)

    def test_safe_firsts(self):
        rng = random.Random(604)
        for kind in KINDS:
            for size in (1, 2, 3, 4):
                for _ in range(20):
                    lasts = [rng.randint(0, 3) for _ in range(size)]
                    firsts = safe_firsts(kind, lasts)
                    self.assertEqual(held_up(kind, list(zip(firsts, lasts))), ())
                    for other in itertools.product(*[range(last + 1) for last in lasts]):
                        if held_up(kind, list(zip(other, lasts))) == ():
                            self.assertTrue(all(a <= b for a, b in zip(other, firsts)))
        self.assertEqual(safe_firsts("path", (3,)), (3,))
        self.assertEqual(safe_firsts("ring", (400,) * 399 + (0,))[-3:], (400, 0, 0))

    def test_limits(self):
        spans = [(0, 0)] * 399 + [(5, 400)]
        self.assertEqual(held_up("ring", spans), (0, 398))
        ends = end_of("ring", spans, 400)
        self.assertEqual((ends[0], ends[1], ends[199], ends[398], ends[399]), (0, 1, 199, 0, 400))
        self.assertEqual(end_of("path", [(0, 0)] * 400, 400), (400,) * 400)
        self.assertEqual(end_of("ring", [(400, 400)], 400), (400,))
        self.assertEqual(end_of("ring", [(3, 7)], 400), (400,))

    def test_wrong_values(self):
        bad = (None, 3, "ab", [], (), [None], [[0, 0]], [(0,)], [(0, 0, 0)], [(1, 0)], [(0, 401)], [(-1, 0)],
               [(True, 1)], [(0, True)], [(0, 0.0)], [(0, 0)] * 401, {(0, 0)})
        for kind in KINDS:
            for spans in bad:
                raised(BadSpans, held_up, kind, spans)
                raised(BadSpans, end_of, kind, spans, None)
            for rounds in (4, 401, True, None, 5.0):
                self.assertEqual(raised(BadNumber, end_of, kind, [(0, 5), (1, 2)], rounds).part, "rounds")
            for lasts in (None, 3, "ab", [], [401], [-1], [True], [0.0], [0] * 401, {0}, [(0, 0)]):
                raised(BadSpans, safe_firsts, kind, lasts)


if __name__ == "__main__":
    unittest.main()
