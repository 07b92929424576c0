"""Promises 31 and 32: maps between webs, and bars that show that there are none."""

import copy
import itertools
import random
import unittest

from roundwright import barhunt, maphunt, maps
from roundwright.bars import is_map_bar, map_bar
from roundwright.errors import BadNumber, BadWeb
from roundwright.maps import first_maps, is_map, some_map
from roundwright.problems import RingProblem
from roundwright.webs import Web, arc_web, rising_web, whole_web
from tests import brute
from tests.brute import STRANGE, raised
from tests.test_webs import random_web, slow_maps


def ring(size):
    return Web(size, [(at, (at + 1) % size) for at in range(size)])


def slow_is_bar(one, other, thing):
    """Whether it is a bar, straight from the words of the document, for rows of the right kinds."""
    pairs, images = set(one.pairs), set(other.pairs)
    left = [set(range(other.size)) for _ in range(one.size)]
    taken = []
    for row in thing:
        if row[0] == "out":
            _, a, x, b = row
            if max(a, b) >= one.size or x not in left[a]:
                return False
            if a == b:
                good = (a, a) in pairs and (x, x) not in images
            else:
                good = ((a, b) in pairs and not any((x, y) in images for y in left[b])) or (
                    (b, a) in pairs and not any((y, x) in images for y in left[b]))
            if not good:
                return False
            left[a].discard(x)
        elif row[0] == "take":
            if row[1] >= one.size or row[2] not in left[row[1]]:
                return False
            taken.append((copy.deepcopy(left), row))
            left[row[1]] = {row[2]}
        else:
            if not taken or all(left):
                return False
            left, (_, a, x) = taken.pop()
            left[a].discard(x)
    return not taken and not all(left)


def bent_bars(rng, bar):
    """Bars with a row left out, put in twice, put in another place, or bent."""
    found = []
    for _ in range(6):
        rows = list(bar)
        at = rng.randrange(len(rows))
        way = rng.randrange(4)
        if way == 0:
            del rows[at]
        elif way == 1:
            rows.insert(at, rows[rng.randrange(len(rows))])
        elif way == 2:
            rows.insert(rng.randrange(len(rows)), rows.pop(at))
        elif len(rows[at]) > 1:
            row = list(rows[at])
            row[rng.randrange(1, len(row))] = rng.randrange(3)
            rows[at] = tuple(row)
        found.append(tuple(rows))
    return found


class TestMaps(unittest.TestCase):
    def test_against_all_maps(self):
        rng = random.Random(611)
        bars = 0
        for _ in range(700):
            one, other = random_web(rng, 6), random_web(rng, 3)
            before = copy.deepcopy((one, other))
            every = slow_maps(one, other)
            self.assertEqual(some_map(one, other), every[0] if every else None)
            for most in (0, 1, 2, 7, 200):
                self.assertEqual(first_maps(one, other, most), every[:most])
            bar = map_bar(one, other)
            self.assertEqual(bar is None, bool(every))
            if bar is not None:
                bars += 1
                self.assertIs(is_map_bar(one, other, bar), True)
                self.assertTrue(slow_is_bar(one, other, bar))
                for bent in bent_bars(rng, bar) if bar else ():
                    self.assertIs(is_map_bar(one, other, bent), slow_is_bar(one, other, bent))
            for _ in range(5):
                line = tuple(rng.randrange(max(1, other.size)) for _ in range(one.size))
                self.assertIs(is_map(one, other, line), line in every)
            self.assertEqual((one, other), before)
        self.assertGreater(bars, 200)

    def test_edges(self):
        empty = Web(0, [])
        self.assertEqual((some_map(empty, empty), some_map(empty, whole_web(2))), ((), ()))
        self.assertEqual((first_maps(empty, empty, 200), first_maps(empty, empty, 0)), ([()], []))
        self.assertTrue(is_map(empty, empty, ()))
        self.assertIsNone(some_map(Web(1, []), empty))
        self.assertEqual(map_bar(Web(1, []), empty), ())
        self.assertIsNone(map_bar(empty, empty))
        self.assertFalse(is_map_bar(empty, empty, ()))
        self.assertFalse(is_map_bar(Web(1, []), Web(1, []), ()))
        loop = Web(1, [(0, 0)])
        self.assertEqual(map_bar(loop, Web(1, [])), (("out", 0, 0, 0),))
        self.assertEqual(first_maps(one=loop, other=Web(2, [(1, 1)]), most=3), [(1,)])

    def test_bar_by_hand(self):
        bar = (("take", 0, 0), ("out", 1, 0, 0), ("out", 2, 1, 1), ("out", 2, 0, 0), ("back",), ("out", 1, 1, 0),
               ("out", 2, 0, 1), ("out", 2, 1, 0))
        self.assertIs(is_map_bar(ring(3), whole_web(2), bar), True)
        self.assertIs(is_map_bar(one=ring(3), other=whole_web(2), thing=bar), True)
        for at in range(len(bar)):
            self.assertIs(is_map_bar(ring(3), whole_web(2), bar[:at] + bar[at + 1:]), False)
        self.assertIs(is_map_bar(ring(4), whole_web(2), bar), False)
        for thing in STRANGE + (list(bar), bar[:-1] + (None,), bar[:-1] + (("out", 2, True, 0),), (bar,),
                                bar[:-1] + (list(bar[-1]),), bar[:-1] + (("out", 2, 1, 0, 0),), bar + (("back",),),
                                bar[:-1] + (("out", 2.0, 1, 0),), bar[:-1] + (("gone", 2, 1, 0),), bar + ((),),
                                bar[:-1] + (("out", 2, 1, False),), bar[:-1] + (("out", 2, 1, 3),), bar + (("take",),),
                                bar[:-1] + (("out", 3, 1, 0),), bar + (("take", 2, 0),), bar + (("back", 0),)):
            self.assertIs(is_map_bar(ring(3), whole_web(2), thing), False)

    def test_wrong_values(self):
        web = Web(1, [])
        for thing in STRANGE + (RingProblem(1, []),):
            for call in (some_map, map_bar):
                self.assertIsNone(raised(BadWeb, call, thing, None).part)
                self.assertIsNone(raised(BadWeb, call, web, thing).part)
            for call in (is_map, is_map_bar, first_maps):
                self.assertIsNone(raised(BadWeb, call, thing, web, None).part)
                self.assertIsNone(raised(BadWeb, call, web, thing, None).part)
        for most in (-1, 201, True, None, 1.0):
            self.assertEqual(raised(BadNumber, first_maps, web, web, most).part, "most")
        for thing in STRANGE + ((True, 0), (0, 2), [0, 1], (0, 1, 0), (0.0, 1), (0,), (0, 0)):
            self.assertIs(is_map(Web(2, [(0, 1)]), whole_web(2), thing), False)
        self.assertIs(is_map(Web(2, [(0, 1)]), whole_web(2), (0, 1)), True)


class TestHunts(unittest.TestCase):
    def test_hunts_that_forget_and_begin_anew(self):
        # With little patience and room small webs go through all that great ones do.
        rng = random.Random(613)
        places = ((maphunt, "_PATIENCE", (0, 1, 3)), (maphunt, "_MORE_ROOM", (2, 5, 20)), (maps, "_STRAIGHT", (0, 1, 3)),
                  (barhunt, "_LOOKED_AT", (1, 2, 10)))
        before = [getattr(home, word) for home, word, _ in places]
        try:
            for _ in range(3000):
                for home, word, numbers in places:
                    setattr(home, word, rng.choice(numbers))
                size, images = rng.choice(((4, 4), (5, 3), (6, 3), (8, 2), (7, 3)))
                share = rng.choice((0.15, 0.25, 0.35))
                one = Web(size, [(a, b) for a in range(size) for b in range(size) if a != b and rng.random() < share])
                other = random_web(rng, images, images)
                every = slow_maps(one, other)
                self.assertEqual(some_map(one, other), every[0] if every else None)
                most = rng.choice((1, 3, 50, 200))
                self.assertEqual(first_maps(one, other, most), every[:most])
                bar = map_bar(one, other)
                self.assertTrue(every if bar is None else is_map_bar(one, other, bar))
        finally:
            for (home, word, _), number in zip(places, before):
                setattr(home, word, number)


class TestGreatWebs(unittest.TestCase):
    def check(self, one, other, there_is):
        found = some_map(one, other)
        self.assertEqual(found is not None, there_is)
        if there_is:
            self.assertTrue(is_map(one, other, found))
            self.assertIsNone(map_bar(one, other))
        else:
            self.assertTrue(is_map_bar(one, other, map_bar(one, other)))

    def test_rings_and_parts(self):
        self.check(ring(4095), whole_web(2), False)
        self.check(ring(4096), whole_web(2), True)
        threes = Web(4095, [(at, at - at % 3 + (at + 1) % 3) for at in range(4095)])
        self.check(threes, whole_web(2), False)
        self.check(threes, whole_web(3), True)
        rounds = Web(12, [(at, (at + 1) % 3) for at in range(3)] + [(3 + at, 3 + (at + 1) % 5) for at in range(5)])
        self.check(ring(4096), rounds, False)
        self.check(ring(4095), rounds, True)
        self.check(Web(4096, [(at, at + 1) for at in range(4095)]), rounds, True)
        self.assertEqual(len(first_maps(ring(4096), whole_web(3), 200)), 200)
        self.assertEqual(first_maps(Web(4096, []), whole_web(2), 3)[2], (0,) * 4094 + (1, 0))

    def test_whole_and_rising_webs(self):
        self.assertEqual(some_map(whole_web(200), whole_web(200)), tuple(range(200)))
        self.assertIsNone(some_map(whole_web(200), whole_web(199)))
        self.assertIsNone(some_map(whole_web(13), whole_web(12)))
        found = first_maps(whole_web(200), whole_web(200), 200)
        self.assertEqual([line[194:] for line in found], list(itertools.permutations(range(194, 200)))[:200])
        self.assertEqual(some_map(rising_web(200), whole_web(200)), tuple(range(200)))
        self.assertIsNone(some_map(rising_web(200), rising_web(199)))
        self.check(whole_web(200), whole_web(4), False)
        self.check(whole_web(7), whole_web(6), False)
        # n labels are enough for the arcs of 2 ** n rising places, and for no more.
        self.check(arc_web(rising_web(8)), whole_web(3), True)
        self.check(arc_web(rising_web(9)), whole_web(3), False)
        self.assertIsNone(some_map(arc_web(rising_web(17)), whole_web(4)))

    def test_many_pairs(self):
        rng = random.Random(612)
        colours = [rng.randrange(12) for _ in range(4096)]
        pairs = {}
        while len(pairs) < 50000:
            a, b = rng.randrange(4096), rng.randrange(4096)
            if colours[a] != colours[b]:
                pairs[(a, b)] = True
        self.check(Web(4096, list(pairs)), whole_web(12), True)
        hidden = {**{pair: True for pair in list(pairs)[:40000]}, **{
            (a, b): True for a in range(7, 4000, 800) for b in range(7, 4000, 800) if a != b}}
        self.check(Web(4096, list(hidden)), whole_web(4), False)


if __name__ == "__main__":
    unittest.main()
