"""Promises 30, 34, 35 and 36: webs, gates and steps down, folding, rows."""

import copy
import itertools
import random
import unittest

from roundwright.errors import BadMap, BadNumber, BadProblem, BadWeb, TooMany
from roundwright.folding import folds, lean, lean_map, renaming
from roundwright.gates import gates, led_down, led_up, step_down
from roundwright.maps import is_map, some_map
from roundwright.problems import PathProblem, RingProblem
from roundwright.rows import most_beside, most_in_row
from roundwright.webs import Web, arc_web, rising_web, turned_web, web_of, whole_web
from tests import brute
from tests.brute import STRANGE, raised


def random_web(rng, most, least=0):
    size = rng.randint(least, most)
    share = rng.choice((0.15, 0.3, 0.5, 0.8))
    loops = rng.random() < 0.5
    pairs = [(a, b) for a in range(size) for b in range(size) if (loops or a != b) and rng.random() < share]
    rng.shuffle(pairs)
    return Web(size, pairs)


def slow_maps(one, other):
    pairs = set(other.pairs)
    return [line for line in itertools.product(range(other.size), repeat=one.size)
            if all((line[a], line[b]) in pairs for a, b in one.pairs)]


class TestWebs(unittest.TestCase):
    def test_attributes(self):
        pairs = [(2, 0), (0, 1), (1, 1)]
        web = Web(size=3, pairs=pairs)
        before = copy.deepcopy(web)
        pairs.append((0, 0))
        self.assertEqual(web, before)
        self.assertEqual((web.size, web.pairs), (3, ((0, 1), (1, 1), (2, 0))))
        self.assertEqual(web, Web(3, ((1, 1), (2, 0), (0, 1))))
        for other in (Web(4, web.pairs), Web(3, web.pairs[1:]), None, web.pairs, RingProblem(3, web.pairs)):
            self.assertFalse(web == other)
        self.assertEqual((Web(0, []).pairs, Web(4096, ()).size), ((), 4096))
        self.assertEqual(len(Web(224, [(a, b) for a in range(224) for b in range(224)][:50000]).pairs), 50000)

    def test_wrong_parts(self):
        for size in (-1, 4097, True, None, 1.0, "3", [3]):
            self.assertEqual(raised(BadWeb, Web, size, None).part, "size")
        many = [(a, b) for a in range(224) for b in range(224)]
        for pairs in (None, "ab", 3, {}, [(0, 3)], [(-1, 0)], [[0, 1]], [(0, 1), (0, 1)], [(0,)], [(0, 1, 2)],
                      [(True, 0)], [(0, 1.0)], [(None, 0)], [brute.Odd()]):
            self.assertEqual(raised(BadWeb, Web, 3, pairs).part, "pairs")
        self.assertEqual(raised(BadWeb, Web, 224, many[:50001]).part, "pairs")
        web = Web(1, [])
        for call in (turned_web, arc_web, gates, step_down, folds, lean, lean_map, most_beside, most_in_row):
            for thing in STRANGE:
                self.assertIsNone(raised(BadWeb, call, thing).part)
            self.assertIsNone(raised(BadWeb, call, web=None).part)
        for call in (renaming,):
            self.assertIsNone(raised(BadWeb, call, None, web).part)
            self.assertIsNone(raised(BadWeb, call, web, RingProblem(1, [])).part)
        for call in (led_up, led_down):
            self.assertIsNone(raised(BadWeb, call, None, None, None).part)
            self.assertIsNone(raised(BadWeb, call, web, None, None).part)

    def test_made_webs(self):
        self.assertEqual(web_of(brute.COLOURS), whole_web(3))
        self.assertEqual(web_of(problem=RingProblem(2, [(1, 1), (0, 1)])), Web(2, [(0, 1), (1, 1)]))
        for thing in STRANGE + (PathProblem(1, [], [], []), Web(1, [])):
            self.assertIsNone(raised(BadProblem, web_of, thing).part)
        self.assertEqual(whole_web(2).pairs, ((0, 1), (1, 0)))
        self.assertEqual(rising_web(3).pairs, ((0, 1), (0, 2), (1, 2)))
        self.assertEqual((whole_web(0), rising_web(0), whole_web(1)), (Web(0, []), Web(0, []), Web(1, [])))
        self.assertEqual((len(whole_web(200).pairs), len(rising_web(200).pairs)), (39800, 19900))
        for size in (-1, 201, True, None, 2.0):
            self.assertEqual(raised(BadNumber, whole_web, size).part, "size")
            self.assertEqual(raised(BadNumber, rising_web, size).part, "size")
        self.assertEqual(turned_web(rising_web(3)).pairs, ((1, 0), (2, 0), (2, 1)))

    def test_arcs(self):
        rng = random.Random(601)
        for _ in range(200):
            web = random_web(rng, 5)
            expected = [(at, on) for at, (_, b) in enumerate(web.pairs) for on, (c, _) in enumerate(web.pairs) if b == c]
            self.assertEqual(arc_web(web), Web(len(web.pairs), expected))
            self.assertEqual(turned_web(turned_web(web)), web)
        # 64 places have 4032 pairs of unlike ones, but these have 64 * 63 * 63 pairs again.
        self.assertEqual(raised(TooMany, arc_web, whole_web(64)).most, 50000)
        self.assertEqual(raised(TooMany, arc_web, whole_web(65)).most, 4096)
        self.assertEqual(arc_web(Web(4096, [(at, (at + 1) % 4096) for at in range(4096)])).size, 4096)
        star = [(at, 0) for at in range(1, 201)] + [(0, at) for at in range(201, 451)]
        self.assertEqual(len(arc_web(Web(451, star)).pairs), 50000)
        self.assertEqual(raised(TooMany, arc_web, Web(453, star + [(0, 452)])).most, 50000)
        self.assertEqual(raised(TooMany, arc_web, Web(4098 - 2, [(0, at) for at in range(4096)] + [(1, 0)])).most, 4096)


def slow_gates(web):
    rows = [{b for a, b in web.pairs if a == place} for place in range(web.size)]
    found = set()
    for many in range(web.size + 1):
        for group in itertools.combinations(range(web.size), many):
            second = set(range(web.size)).intersection(*[rows[a] for a in group])
            first = {a for a in range(web.size) if second <= rows[a]}
            found.add((tuple(sorted(first)), tuple(sorted(second))))
    return tuple(sorted(found))


class TestGates(unittest.TestCase):
    def test_by_hand(self):
        self.assertEqual(gates(whole_web(2)), (((), (0, 1)), ((0,), (1,)), ((0, 1), ()), ((1,), (0,))))
        self.assertEqual(step_down(whole_web(2)), Web(4, [(0, 1), (0, 2), (0, 3), (1, 2), (1, 3), (3, 1), (3, 2)]))
        self.assertEqual(gates(Web(0, [])), (((), ()),))
        self.assertEqual(gates(Web(1, [(0, 0)])), (((0,), (0,)),))

    def test_against_all_sets(self):
        rng = random.Random(602)
        for _ in range(300):
            web = random_web(rng, 6)
            found = gates(web)
            self.assertEqual(found, slow_gates(web))
            pairs = [(a, b) for a, (_, t) in enumerate(found) for b, (u, _) in enumerate(found) if set(t) & set(u)]
            self.assertEqual(step_down(web), Web(len(found), pairs))

    def test_limits(self):
        # n places of which each leads to all others have 2 ** n gates.
        self.assertEqual(len(gates(whole_web(12))), 4096)
        self.assertEqual(raised(TooMany, gates, whole_web(13)).most, 4096)
        self.assertEqual(raised(TooMany, step_down, whole_web(13)).most, 4096)
        self.assertEqual(raised(TooMany, step_down, whole_web(12)).most, 50000)
        self.assertEqual(step_down(whole_web(7)).size, 128)
        self.assertEqual(len(step_down(whole_web(7)).pairs), 128 * 128 - 3 ** 7)
        self.assertEqual(raised(TooMany, step_down, whole_web(8)).most, 50000)
        line = Web(4094, [(at, at + 1) for at in range(4093)])
        self.assertEqual(len(gates(line)), 4095)
        self.assertEqual(len(gates(Web(4096, [(at, at + 1) for at in range(4093)] + [(4094, 4095)]))), 4096)
        self.assertEqual(raised(TooMany, gates, Web(4096, [(at, at + 1) for at in range(4095)])).most, 4096)

    def test_led_up_and_down(self):
        rng = random.Random(603)
        ups = downs = nones = 0
        for _ in range(250):
            one, other = random_web(rng, 4), random_web(rng, 3)
            arcs, stepped, told = arc_web(one), step_down(other), gates(other)
            up = some_map(one, stepped)
            down = some_map(arcs, other)
            self.assertEqual(up is None, down is None)
            nones += up is None
            if up is None:
                continue
            for line in [up] + [slow_maps(one, stepped)[-1]] * (stepped.size ** one.size < 2000):
                expected = tuple(min(set(told[line[a]][1]) & set(told[line[b]][0])) for a, b in one.pairs)
                found = led_up(one, other, line)
                ups += 1
                self.assertEqual(found, expected)
                self.assertTrue(is_map(arcs, other, found))
            for line in slow_maps(arcs, other)[-3:] if other.size ** arcs.size < 3000 else [down]:
                found = led_down(one, other, line)
                downs += 1
                self.assertTrue(is_map(one, stepped, found))
                again = led_up(one, other, found)
                self.assertTrue(all(a <= b for a, b in zip(again, line)))
        self.assertTrue(ups > 50 and downs > 50 and nones > 20)

    def test_wrong_maps(self):
        one, other = Web(2, [(0, 1)]), whole_web(2)
        self.assertEqual(led_up(one=one, other=other, thing=(0, 1)), (0,))
        self.assertEqual(led_down(one=one, other=other, thing=(1,)), (0, 3))
        for thing in STRANGE + ((0, 4), (2, 1), (0,), (0, 1, 2), [0, 1], (0, True), (0, 1.0)):
            raised(BadMap, led_up, one, other, thing)
        for thing in STRANGE + ((2,), (0, 1), [0], (True,), (-1,)):
            raised(BadMap, led_down, one, other, thing)
        self.assertEqual(raised(TooMany, led_up, whole_web(65), whole_web(13), None).most, 4096)
        self.assertEqual(raised(TooMany, led_up, whole_web(64), whole_web(12), None).most, 50000)
        self.assertEqual(raised(TooMany, led_down, whole_web(64), whole_web(2), None).most, 50000)
        self.assertEqual(raised(TooMany, led_down, whole_web(65), whole_web(2), None).most, 4096)


def slow_folds(web, pick):
    """Folds, the pair of places to fold chosen by pick among all."""
    left, found = set(range(web.size)), []
    while True:
        pairs = {pair for pair in web.pairs if set(pair) <= left}
        able = [(p, q) for p in sorted(left) for q in sorted(left) if p != q and all(
            tuple(q if x == p else x for x in pair) in pairs for pair in pairs if p in pair)]
        if not able:
            return tuple(found), sorted(left)
        found.append(pick(able))
        left.discard(found[-1][0])


def part_of(web, left):
    return Web(len(left), [(left.index(a), left.index(b)) for a, b in web.pairs if a in left and b in left])


class TestFolding(unittest.TestCase):
    def test_in_the_sequence_told(self):
        rng = random.Random(604)
        for _ in range(400):
            web = random_web(rng, 7)
            found, left = slow_folds(web, min)
            self.assertEqual(folds(web), found)
            self.assertEqual(lean(web), part_of(web, left))
            goes = lean_map(web)
            self.assertTrue(is_map(web, lean(web), goes))
            self.assertEqual([goes[place] for place in left], list(range(len(left))))
            for place, goal in found:
                self.assertEqual(goes[place], goes[goal])

    def test_whatever_is_folded(self):
        rng = random.Random(605)
        for _ in range(150):
            web = random_web(rng, 7)
            _, left = slow_folds(web, rng.choice)
            self.assertIsNotNone(renaming(lean(web), part_of(web, left)))
            other = random_web(rng, 3)
            if other.size ** web.size < 5000:
                self.assertEqual(slow_maps(web, other) == [], some_map(lean(web), lean(other)) is None)

    def test_renaming_against_all_orders(self):
        rng = random.Random(606)
        for _ in range(400):
            one = random_web(rng, 5)
            order = rng.sample(range(one.size), one.size)
            other = Web(one.size, [(order[a], order[b]) for a, b in one.pairs])
            if rng.random() < 0.4:
                other = Web(one.size, rng.sample(brute.all_pairs(one.size), len(one.pairs)))
            expected = [line for line in itertools.permutations(range(one.size))
                        if {(line[a], line[b]) for a, b in one.pairs} == set(other.pairs)]
            self.assertEqual(renaming(one, other), min(expected, default=None))
        self.assertIsNone(renaming(Web(2, []), Web(3, [])))
        self.assertEqual(renaming(one=Web(0, []), other=Web(0, [])), ())
        # A ring of six and two of three look alike from each place.
        six = Web(6, [(at, (at + 1) % 6) for at in range(6)])
        threes = Web(6, [(at, at - at % 3 + (at + 1) % 3) for at in range(6)])
        self.assertIsNone(renaming(six, threes))

    def test_great_webs(self):
        rng = random.Random(607)
        order = rng.sample(range(4096), 4096)
        ring = Web(4096, [(at, (at + 1) % 4096) for at in range(4096)])
        other = Web(4096, [(order[a], order[b]) for a, b in ring.pairs])
        found = renaming(ring, other)
        self.assertEqual(found[0], 0)
        self.assertTrue(is_map(ring, other, found))
        self.assertEqual(folds(ring), ())
        self.assertEqual(len(folds(Web(4096, []))), 4095)
        both = Web(4096, [(at, at + 1) for at in range(4095)] + [(at + 1, at) for at in range(4095)])
        self.assertEqual(lean(both), whole_web(2))
        self.assertEqual(renaming(whole_web(200), whole_web(200)), tuple(range(200)))


def slow_row(web, both):
    if any(a == b for a, b in web.pairs):
        return None
    pairs = set(web.pairs)
    for many in range(web.size, 0, -1):
        for line in itertools.permutations(range(web.size), many):
            if both and list(line) != sorted(line):
                continue
            if all((a, b) in pairs and (not both or (b, a) in pairs) for a, b in itertools.combinations(line, 2)):
                return line
    return ()


class TestRows(unittest.TestCase):
    def test_against_all_orders(self):
        rng = random.Random(608)
        for _ in range(400):
            web = random_web(rng, 6)
            self.assertEqual(most_beside(web), slow_row(web, True))
            self.assertEqual(most_in_row(web), slow_row(web, False))
        self.assertEqual((most_beside(Web(0, [])), most_in_row(Web(0, []))), ((), ()))
        self.assertIsNone(most_beside(web=Web(2, [(1, 1)])))
        self.assertIsNone(most_in_row(web=Web(2, [(0, 0)])))
        self.assertEqual((most_beside(Web(3, [])), most_in_row(Web(3, []))), ((0,), (0,)))

    def test_great_webs(self):
        self.assertEqual(most_beside(whole_web(200)), tuple(range(200)))
        self.assertEqual(most_in_row(whole_web(200)), tuple(range(200)))
        self.assertEqual(most_beside(rising_web(200)), (0,))
        self.assertEqual(most_in_row(rising_web(200)), tuple(range(200)))
        self.assertEqual(most_in_row(turned_web(rising_web(200))), tuple(range(199, -1, -1)))
        # Of n labels stepped down the greatest sets of which none is within another one have half of them.
        for labels, many in ((4, 6), (5, 10), (6, 20), (7, 35)):
            self.assertEqual(len(most_beside(step_down(whole_web(labels)))), many)
            self.assertEqual(len(most_in_row(step_down(whole_web(labels)))), 2 ** labels)
        twice = step_down(step_down(whole_web(4)))
        self.assertEqual((twice.size, len(most_beside(twice)), len(most_in_row(twice))), (168, 24, 168))

    def test_what_is_handed_in_stays(self):
        web = random_web(random.Random(609), 6, 6)
        before = copy.deepcopy(web)
        for call in (gates, step_down, folds, lean, lean_map, most_beside, most_in_row, turned_web, arc_web):
            first, second = call(web), call(web)
            self.assertEqual(first, second)
            self.assertEqual(web, before)


if __name__ == "__main__":
    unittest.main()
