"""Promise 83: rectangles, covers, bars and texts of fewest lines."""

import itertools
import random
import unittest

from roundwright.errors import BadNames, BadNumber, BadProblem, TooMany
from roundwright.problems import PathProblem, RingProblem
from roundwright.problemtexts import problem_of_text
from roundwright.rectangles import fewest_lines, is_bar, is_cover, rectangles, short_text
from tests import brute
from tests.brute import STRANGE, Odd, raised

PROBLEMS = brute.random_problems(821, 120, 4) + brute.tiny_problems()
CROWN = RingProblem(6, [(a, b) for a, b in brute.all_pairs(6) if a != b])


def subsets(labels):
    return [group for size in range(1, labels + 1) for group in itertools.combinations(range(labels), size)]


def slow_rectangles(problem):
    return [(one, other) for one in subsets(problem.labels) for other in subsets(problem.labels)
            if all(pair in problem.pairs for pair in itertools.product(one, other))]


def slow_greatest(problem):
    every = slow_rectangles(problem)
    return sorted(part for part in every if not any(
        other != part and set(part[0]) <= set(other[0]) and set(part[1]) <= set(other[1]) for other in every))


def slow_fewest(problem):
    greatest = slow_greatest(problem)
    for many in range(len(problem.pairs) + 1):
        for group in itertools.combinations(greatest, many):
            if {pair for part in group for pair in itertools.product(*part)} == set(problem.pairs):
                return many


def slow_bar(problem, number, thing, chosen=()):
    """What the document says of bars, word by word, for things of the right kinds."""
    pair = thing[1]
    if pair not in problem.pairs or any(pair[0] in part[0] and pair[1] in part[1] for part in chosen):
        return False
    if number == 0:
        return thing == ("end", pair)
    parts = [part for part in slow_greatest(problem) if pair[0] in part[0] and pair[1] in part[1]]
    return thing[0] == "part" and len(thing[2]) == len(parts) and all(
        slow_bar(problem, number - 1, bar, chosen + (part,)) for part, bar in zip(parts, thing[2]))


class TestRectangles(unittest.TestCase):
    def test_greatest(self):
        for problem in PROBLEMS:
            self.assertEqual(rectangles(problem), slow_greatest(problem))
        self.assertEqual(rectangles(RingProblem(6, brute.all_pairs(6))), [(tuple(range(6)), tuple(range(6)))])
        self.assertEqual(len(rectangles(CROWN)), 62)
        self.assertEqual(rectangles(RingProblem(6, [])), [])

    def test_covers(self):
        rng = random.Random(822)
        for problem in PROBLEMS:
            every = slow_rectangles(problem)
            for _ in range(20):
                group = [rng.choice(every) for _ in range(rng.randint(0, 4))] if every else []
                whole = {pair for part in group for pair in itertools.product(*part)} == set(problem.pairs)
                self.assertIs(is_cover(problem, group), whole)
                self.assertIs(is_cover(problem, tuple(group)), whole)
            self.assertIs(is_cover(problem, every), True)
        loop = RingProblem(2, [(0, 0), (0, 1)])
        self.assertIs(is_cover(loop, [((0,), (0, 1))]), True)
        for thing in ([((0,), (1, 0))], [((0,), (0, 0, 1))], [[(0,), (0, 1)]], [([0], (0, 1))], [((0,), [0, 1])],
                      [((False,), (0, 1))], [((0.0,), (0, 1))], [((), (0, 1)), ((0,), (0, 1))], [((0, 1), (0, 1))],
                      [((0,), (0, 1), ())], [((0,), (0, 1)), None], [((0,), (0, 1, 2))], [Odd()], {((0,), (0, 1))},
                      [((0,), (0,))], None, 3, "ab"):
            self.assertIs(is_cover(loop, thing), False)
        self.assertIs(is_cover(brute.EMPTY_12, []), True)
        self.assertIs(is_cover(brute.WHOLE_12, [(tuple(range(12)), tuple(range(12)))]), True)
        self.assertIs(is_cover(brute.LINE_12, [((a,), (b,)) for a, b in brute.LINE_12.pairs]), True)

    def test_either_a_cover_or_a_bar(self):
        for problem in brute.random_problems(823, 60, 4) + brute.tiny_problems():
            cover, bar = fewest_lines(problem)
            greatest = slow_greatest(problem)
            self.assertTrue(all(part in greatest for part in cover))
            self.assertIs(is_cover(problem, cover), True)
            self.assertEqual(len(cover), slow_fewest(problem))
            if not cover:
                self.assertIsNone(bar)
                continue
            self.assertIs(is_bar(problem, len(cover) - 1, bar), True)
            self.assertIs(slow_bar(problem, len(cover) - 1, bar), True)
            for number in (len(cover), len(cover) + 1, 10 ** 9):
                self.assertIs(is_bar(problem, number, bar), False)
            for other in bent_bars(bar):
                self.assertIs(is_bar(problem, len(cover) - 1, other), slow_bar(problem, len(cover) - 1, other))

    def test_no_bar_beside_a_cover(self):
        # All bars of small depth, one by one: there is one for a number exactly if there is no cover of so many.
        for problem in brute.random_problems(824, 40, 3):
            least = slow_fewest(problem)
            for number in range(3):
                found = any(is_bar(problem, number, bar) for bar in self.all_bars(problem, number))
                self.assertIs(found, number < least)

    def all_bars(self, problem, number):
        if number == 0:
            return [("end", pair) for pair in problem.pairs]
        greatest = slow_greatest(problem)
        found = []
        for pair in problem.pairs:
            many = len([part for part in greatest if pair[0] in part[0] and pair[1] in part[1]])
            below = self.all_bars(problem, number - 1)
            if len(below) ** many < 4000:
                found += [("part", pair, bars) for bars in itertools.product(below, repeat=many)]
        return found

    def test_limits(self):
        rng = random.Random(825)
        for share in (0.3, 0.5, 0.6, 0.7, 0.8, 0.9):
            for _ in range(6):
                problem = RingProblem(6, brute.some_of(rng, brute.all_pairs(6), share))
                cover, bar = fewest_lines(problem)
                self.assertIs(is_cover(problem, cover), True)
                self.assertIs(is_bar(problem, len(cover) - 1, bar), True)
        cover, bar = fewest_lines(CROWN)
        self.assertEqual(len(cover), 4)
        self.assertIs(is_bar(CROWN, 3, bar), True)
        line = RingProblem(6, [(at, at) for at in range(6)])
        self.assertEqual(len(fewest_lines(line)[0]), 6)
        self.assertEqual(fewest_lines(RingProblem(6, [])), ([], None))
        seven = RingProblem(7, [])
        for call, parts in ((rectangles, ()), (fewest_lines, ()), (is_bar, (0, None)),
                            (short_text, (tuple("abcdefg"),))):
            self.assertEqual(raised(TooMany, call, seven, *parts).most, 6)

    def test_short_texts(self):
        rng = random.Random(826)
        for problem in PROBLEMS + [CROWN]:
            names = tuple(rng.sample(["a", "b", "cc", "ddd", "al", "buts", "thena", "x" * 12], problem.labels))
            text = short_text(problem, names)
            self.assertEqual(problem_of_text(text), (problem, names))
            head = 2 if isinstance(problem, RingProblem) else 4
            lines = text.split("\n")
            self.assertEqual(len(lines) - head, len(fewest_lines(problem)[0]))
            for line in lines[head:]:
                one, other = line.split("->")
                for told in (one, other):
                    self.assertEqual(told, told.strip(" "))
                    self.assertEqual(len(told), self.shortest(names, told))
            for line in lines[:head]:
                self.assertEqual(line, " ".join(line.split()))

    def shortest(self, names, told):
        words = told.split(" ")
        some = [name for name in names if name in words]
        if words[0] == "all":
            some = [name for name in names if name not in words]
        others = [name for name in names if name not in some]
        forms = [" ".join(some), "all but " + " ".join(others) if others else "all"]
        return min(map(len, forms))

    def test_by_hand(self):
        problem = PathProblem(2, brute.all_pairs(2), [1, 0], [])
        self.assertEqual(short_text(problem, ("long", "words")), "path\nlabels long words\nstarts long words\nends\nall->all")
        self.assertEqual(short_text(RingProblem(1, [(0, 0)]), ("a",)), "ring\nlabels a\na->a")
        self.assertEqual(short_text(RingProblem(1, []), ("a",)), "ring\nlabels a")
        self.assertEqual(short_text(problem=RingProblem(3, [(0, 0), (1, 0)]), names=("abcdef", "ghijkl", "m")),
                         "ring\nlabels abcdef ghijkl m\nall but m->abcdef")

    def test_wrong_values(self):
        for thing in STRANGE:
            for call, many in ((rectangles, 0), (is_cover, 1), (is_bar, 2), (fewest_lines, 0), (short_text, 1)):
                self.assertIsNone(raised(BadProblem, call, thing, *[None] * many).part)
        for number in (-1, True, None, 1.0, "1"):
            self.assertEqual(raised(BadNumber, is_bar, brute.WHOLE_12, number, None).part, "number")
        for names in STRANGE + (("a",), ("a", "a"), ["a", "b"]):
            raised(BadNames, short_text, brute.CHESS, names)
        raised(BadNames, short_text, brute.WHOLE_12, ("a",))
        for thing in STRANGE + (("end",), ("end", (0, 1), ()), ("end", [0, 1]), ("end", (False, 1)), ("end", (0, 0)),
                                ["end", (0, 1)], ("part", (0, 1)), ("end", None), (None, (0, 1)), ("End", (0, 1))):
            self.assertIs(is_bar(brute.CHESS, 0, thing), False)
        self.assertIs(is_bar(problem=brute.CHESS, number=0, thing=("end", (0, 1))), True)
        good = ("part", (0, 1), (("end", (1, 0)),))
        self.assertIs(is_bar(brute.CHESS, 1, good), True)
        for thing in (("part", (0, 1), [("end", (1, 0))]), ("part", (0, 1), (("end", (0, 1)),)), ("part", (0, 1), ()),
                      ("part", (0, 1), (("end", (1, 0)),) * 2), good + (0,), ("end", (0, 1)), list(good)):
            self.assertIs(is_bar(brute.CHESS, 1, thing), False)


def bent_bars(bar):
    """Bars that are a little different from one."""
    found = [(bar[0], (bar[1][1], bar[1][0])) + bar[2:], ("end", bar[1])]
    if bar[0] == "part":
        found += [bar[:2] + (bar[2][:-1],), bar[:2] + (bar[2] + bar[2][:1],), bar[:2] + (bar[2][::-1],)]
        for at, below in enumerate(bar[2]):
            found += [bar[:2] + (bar[2][:at] + (other,) + bar[2][at + 1:],) for other in bent_bars(below)]
    return found[:40]


if __name__ == "__main__":
    unittest.main()
