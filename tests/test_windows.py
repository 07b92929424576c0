"""Promises 33, 37, 38 and 2 (c): windows, webs stepped down, tables as maps, programs of step down."""

import copy
import itertools
import random
import unittest

from roundwright.bars import is_map_bar
from roundwright.errors import BadColouring, BadKind, BadNumber, BadProblem, BadTable, BadWeb, NoProgram, TooMany
from roundwright.gates import gates, step_down
from roundwright.maps import is_map, some_map
from roundwright.problems import PathProblem, RingProblem, is_right
from roundwright.rows import most_beside, most_in_row
from roundwright.stepping import most_names, web_stepped
from roundwright.stepprograms import step_answer, step_labelling
from roundwright.tablemaps import bar_of_tables, least_table, map_of_table
from roundwright.tables import Table, is_sound
from roundwright.webs import Web, arc_web, rising_web, web_of, whole_web
from roundwright.windows import all_windows, window_web
from tests import brute
from tests.brute import STRANGE, raised
from tests.test_webs import random_web

KINDS = ("next", "unlike", "rising")


def slow_windows(names, many, kind):
    found = []
    for line in itertools.product(range(1, names + 1), repeat=many):
        pairs = list(zip(line, line[1:])) if kind != "unlike" else list(itertools.combinations(line, 2))
        if all(a < b if kind == "rising" else a != b for a, b in pairs):
            found.append(line)
    return tuple(found)


def whole_problem(labels):
    return RingProblem(labels, [(a, b) for a in range(labels) for b in range(labels) if a != b])


class TestWindows(unittest.TestCase):
    def test_against_all_tuples(self):
        for kind in KINDS:
            for names in range(1, 6):
                for halves in range(5):
                    found = all_windows(names, halves, kind)
                    self.assertEqual(found, slow_windows(names, halves + 1, kind))
                    longer = slow_windows(names, halves + 2, kind)
                    pairs = [(found.index(line[:-1]), found.index(line[1:])) for line in longer]
                    self.assertEqual(window_web(names, halves, kind), Web(len(found), pairs))
                    if kind != "unlike" and names * max(names - 1, 1) ** (halves + 1) <= 4096:
                        self.assertEqual(window_web(names, halves + 1, kind), arc_web(window_web(names, halves, kind)))
        self.assertEqual(window_web(200, 0, "next"), whole_web(200))
        self.assertEqual(window_web(names=200, halves=0, kind="rising"), rising_web(200))

    def test_limits(self):
        self.assertEqual(len(all_windows(64, 1, "unlike")), 4032)
        self.assertEqual(len(all_windows(91, 1, "rising")), 4095)
        self.assertEqual(len(all_windows(17, 2, "unlike")), 4080)
        self.assertEqual(len(all_windows(2, 12, "next")), 2)
        self.assertEqual(len(all_windows(14, 12, "rising")), 14)
        for names, halves, kind in ((65, 1, "next"), (65, 1, "unlike"), (92, 1, "rising"), (18, 2, "unlike"), (3, 12, "next")):
            for call in (all_windows, window_web):
                self.assertEqual(raised(TooMany, call, names, halves, kind).most, 4096)
        # 37 * 36 * 35 pairs are still within the limit.
        self.assertEqual(len(window_web(37, 1, "unlike").pairs), 46620)
        self.assertEqual(raised(TooMany, window_web, 38, 1, "unlike").most, 50000)
        self.assertEqual(raised(TooMany, window_web, 38, 1, "next").most, 50000)
        self.assertEqual(len(window_web(67, 1, "rising").pairs), 67 * 66 * 65 // 6)
        self.assertEqual(raised(TooMany, window_web, 68, 1, "rising").most, 50000)
        self.assertEqual((all_windows(1, 0, "next"), all_windows(1, 1, "next"), all_windows(3, 5, "unlike")), (((1,),), (), ()))

    def test_wrong_values(self):
        for call in (all_windows, window_web):
            for names in (0, 201, True, None, 2.0):
                self.assertEqual(raised(BadNumber, call, names, None, None).part, "names")
            for halves in (-1, 13, True, None, 1.0):
                self.assertEqual(raised(BadNumber, call, 200, halves, None).part, "halves")
            for kind in ("Next", None, 3, [], b"next", "", ("next",), brute.Odd()):
                raised(BadKind, call, 200, 12, kind)


class TestStepping(unittest.TestCase):
    def test_web_stepped(self):
        rng = random.Random(661)
        for _ in range(80):
            web = random_web(rng, 3)
            once = step_down(web)
            self.assertEqual((web_stepped(web, 0), web_stepped(web, 1), web_stepped(web, 2)), (web, once, step_down(once)))
        self.assertEqual(web_stepped(web=whole_web(2), halves=12).size, 26)
        self.assertEqual(raised(TooMany, web_stepped, whole_web(13), 1).most, 4096)
        self.assertEqual(raised(TooMany, web_stepped, whole_web(5), 2).most, 4096)
        self.assertEqual(raised(TooMany, web_stepped, whole_web(8), 1).most, 50000)
        for halves in (-1, 13, True, None):
            self.assertEqual(raised(BadNumber, web_stepped, whole_web(1), halves).part, "halves")
        for thing in STRANGE:
            self.assertIsNone(raised(BadWeb, web_stepped, thing, None).part)

    def most_by_maps(self, problem, halves, kind, most):
        for names in range(1, most + 1):
            if some_map(window_web(names, halves, kind), web_of(problem)) is None:
                return names - 1
        return most

    def test_most_names_by_maps(self):
        for problem in brute.random_rings(662, 60, 3):
            if any(a == b for a, b in problem.pairs):
                for kind in KINDS:
                    self.assertIsNone(most_names(problem, 2, kind))
                continue
            for halves in (0, 1, 2):
                told = [most_names(problem, halves, kind) for kind in KINDS]
                self.assertTrue(told[0] <= told[1] <= told[2])
                for kind, number in zip(KINDS, told):
                    if number < 8 or halves < 2:
                        self.assertEqual(number, self.most_by_maps(problem, halves, kind, number + 1), (problem.pairs, kind))
                stepped = web_stepped(web_of(problem), halves)
                self.assertEqual(told[0], len(most_beside(stepped)))
                self.assertEqual(told[2], len(most_in_row(stepped)))

    def test_most_names_told(self):
        expected = {(2, 0): (2, 2, 2), (2, 1): (2, 2, 4), (3, 1): (3, 4, 8), (3, 2): (4, 6, 20), (4, 1): (6, 6, 16)}
        for (labels, halves), told in expected.items():
            self.assertEqual(tuple(most_names(whole_problem(labels), halves, kind) for kind in KINDS), told)
        self.assertEqual(most_names(whole_problem(12), 0, "unlike"), 12)
        self.assertEqual(most_names(whole_problem(7), 1, "next"), 35)
        self.assertEqual(most_names(problem=whole_problem(7), halves=1, kind="rising"), 128)
        self.assertEqual(most_names(whole_problem(4), 2, "next"), 24)
        # No problem without a loop has programs of 12 halves that the web of two labels does not tell.
        self.assertEqual(most_names(whole_problem(2), 12, "rising"), 26)

    def test_most_names_limits(self):
        self.assertEqual(raised(TooMany, most_names, whole_problem(8), 1, "next").most, 50000)
        self.assertEqual(raised(TooMany, most_names, whole_problem(8), 1, "rising").most, 50000)
        # For 38 names there are too many pairs, for all fewer there are maps.
        self.assertEqual(raised(TooMany, most_names, whole_problem(8), 1, "unlike").most, 50000)
        self.assertEqual(raised(TooMany, most_names, whole_problem(4), 2, "unlike").most, 50000)
        self.assertEqual(raised(TooMany, most_names, brute.EMPTY_12, 6, "unlike").most, 4096)
        self.assertEqual(raised(TooMany, most_names, brute.CHESS, 12, "unlike").most, 4096)
        # Without pairs one name more than there are halves has windows, none of which leads to another one.
        for halves in (1, 2, 3, 4):
            self.assertEqual(most_names(brute.EMPTY_12, halves, "unlike"), halves + 1)
        self.assertEqual(most_names(brute.EMPTY_12, 5, "rising"), 6)
        self.assertEqual(raised(TooMany, most_names, brute.EMPTY_12, 5, "unlike").most, 4096)
        for halves in (-1, 13, True, None):
            self.assertEqual(raised(BadNumber, most_names, brute.CHESS, halves, None).part, "halves")
        for kind in ("", None, 3, "all"):
            raised(BadKind, most_names, brute.CHESS, 12, kind)
        for thing in STRANGE + (PathProblem(1, [], [], []), Web(1, [])):
            self.assertIsNone(raised(BadProblem, most_names, thing, None, None).part)

    def test_windows_map_as_shorter_ones_do(self):
        rng = random.Random(663)
        for _ in range(40):
            web = random_web(rng, 3, 1)
            for kind in ("next", "rising"):
                for names, halves in ((2, 1), (3, 1), (4, 1), (3, 2), (4, 2)):
                    there = some_map(window_web(names, halves, kind), web) is not None
                    for steps in range(1, halves + 1):
                        shorter = window_web(names, halves - steps, kind)
                        self.assertEqual(there, some_map(shorter, web_stepped(web, steps)) is not None)


class TestTables(unittest.TestCase):
    def test_map_of_table(self):
        rng = random.Random(664)
        for _ in range(200):
            rounds, names = rng.choice(((0, 1), (0, 3), (1, 3), (1, 4)))
            problem = brute.random_ring(rng, rng.randint(1, 3))
            windows = all_windows(names, 2 * rounds, "unlike")
            answers = {window: rng.randrange(problem.labels) for window in windows}
            table = Table(problem.labels, rounds, names, answers)
            found = map_of_table(table)
            self.assertEqual(found, tuple(answers[window] for window in windows))
            sound = is_map(window_web(names, 2 * rounds, "unlike"), web_of(problem), found)
            self.assertIs(is_sound(problem, table), sound)
        for thing in STRANGE:
            self.assertIsNone(raised(BadTable, map_of_table, thing).part)

    def test_least_tables_and_bars(self):
        tables = bars = 0
        for problem in brute.random_rings(665, 120, 3):
            for rounds, names in ((0, 1), (0, 2), (0, 3), (0, 40), (1, 3), (1, 4), (1, 5), (2, 5), (2, 6)):
                table, bar = least_table(problem, rounds, names), bar_of_tables(problem, rounds, names)
                self.assertNotEqual(table is None, bar is None)
                if table is None:
                    bars += 1
                    self.assertTrue(is_map_bar(window_web(names, 2 * rounds, "unlike"), web_of(problem), bar))
                else:
                    tables += 1
                    self.assertTrue(is_sound(problem, table))
                many = problem.labels ** len(all_windows(names, 2 * rounds, "unlike"))
                if many <= 800:
                    every = [line for line in itertools.product(
                        range(problem.labels), repeat=len(all_windows(names, 2 * rounds, "unlike")))
                        if is_map(window_web(names, 2 * rounds, "unlike"), web_of(problem), line)]
                    self.assertEqual(every[:1], [map_of_table(table)] if table else [])
        self.assertTrue(tables > 100 and bars > 100)

    def test_three_colours(self):
        table = least_table(brute.COLOURS, 1, 6)
        self.assertTrue(is_sound(brute.COLOURS, table))
        self.assertIsNone(least_table(problem=brute.COLOURS, rounds=1, names=7))
        bar = bar_of_tables(problem=brute.COLOURS, rounds=1, names=7)
        self.assertTrue(is_map_bar(window_web(7, 2, "unlike"), whole_web(3), bar))
        self.assertTrue(is_sound(brute.COLOURS, least_table(brute.COLOURS, 2, 7)))

    def test_limits(self):
        loops = RingProblem(12, [(a, (a + 1) % 12) for a in range(11)] + [(7, 7)])
        self.assertEqual(set(map_of_table(least_table(loops, 1, 16))), {7})
        self.assertEqual(least_table(loops, 0, 224).names, 224)
        bar = bar_of_tables(whole_problem(5), 0, 224)
        pairs = [(a, b) for a in range(224) for b in range(224) if a != b]
        self.assertTrue(is_map_bar(Web(224, pairs), whole_web(5), bar))
        self.assertIsNone(least_table(brute.LINE_12, 1, 16))
        for call in (least_table, bar_of_tables):
            self.assertEqual(raised(TooMany, call, brute.CHESS, 2, 8).most, 4096)
            self.assertEqual(raised(TooMany, call, brute.CHESS, 3, 7).most, 4096)
            for rounds in (-1, 4, True, None):
                self.assertEqual(raised(BadNumber, call, brute.CHESS, rounds, None).part, "rounds")
            for rounds, names in ((0, 0), (0, 225), (1, 2), (1, 17), (2, 9), (3, 6), (3, 9), (0, True), (1, None), (0, 1.0)):
                self.assertEqual(raised(BadNumber, call, brute.CHESS, rounds, names).part, "names")
            for thing in STRANGE + (PathProblem(1, [], [], []),):
                self.assertIsNone(raised(BadProblem, call, thing, None, None).part)


def slow_answer(problem, rounds, names, window):
    """The answer straight from the words; None without a program."""
    webs = [web_of(problem)]
    for _ in range(2 * rounds):
        webs.append(step_down(webs[-1]))
    top = webs[-1]
    pairs = set(top.pairs)
    loops = [a for a in range(top.size) if (a, a) in pairs]
    places = [loops[0]] * names if loops else next((line for line in itertools.combinations(range(top.size), names) if all(
        (a, b) in pairs and (b, a) in pairs for a, b in itertools.combinations(line, 2))), None)
    if places is None:
        return None
    row = [places[name - 1] for name in window]
    for web in webs[-2::-1]:
        told = gates(web)
        row = [min(set(told[a][1]) & set(told[b][0])) for a, b in zip(row, row[1:])]
    return row[0]


class TestStepPrograms(unittest.TestCase):
    def test_against_the_words(self):
        rng = random.Random(666)
        programs = nones = 0
        for problem in brute.random_rings(667, 60, 3):
            for rounds, names in ((0, 2), (0, 3), (1, 2), (1, 3), (1, 4)):
                windows = all_windows(names, 2 * rounds, "next")
                expected = slow_answer(problem, rounds, names, windows[0])
                if expected is None:
                    nones += 1
                    raised(NoProgram, step_answer, problem, rounds, names, windows[0])
                    raised(NoProgram, step_labelling, problem, rounds, names, (1, 2))
                    stepped = web_stepped(web_of(problem), 2 * rounds)
                    self.assertLess(len(most_beside(stepped)), names)
                    self.assertIsNone(some_map(window_web(names, 2 * rounds, "next"), web_of(problem)))
                    continue
                programs += 1
                for window in rng.sample(windows, min(6, len(windows))):
                    self.assertEqual(step_answer(problem, rounds, names, window), slow_answer(problem, rounds, names, window))
                for size in range(2, 6):
                    for line in itertools.product(range(1, names + 1), repeat=size):
                        if all(a != b for a, b in zip(line, line[1:] + line[:1])) and rng.random() < 0.3:
                            self.check(problem, rounds, names, line)
        self.assertTrue(programs > 40 and nones > 20)

    def check(self, problem, rounds, names, colouring):
        found = step_labelling(problem, rounds, names, colouring)
        self.assertTrue(is_right(problem, found))
        size = len(colouring)
        for place in range(0, size, 1 + size // 5):
            window = tuple(colouring[at % size] for at in range(place - rounds, place + rounds + 1))
            self.assertEqual(found[place], step_answer(problem, rounds, names, window))

    def test_great_rings(self):
        rng = random.Random(668)
        for problem, rounds, names in ((brute.COLOURS, 1, 4), (whole_problem(4), 1, 24), (brute.COLOURS, 0, 3),
                                       (brute.CHESS, 6, 2), (RingProblem(3, [(1, 1), (0, 2)]), 2, 200)):
            for size in (2, 12, 400) if names == 2 else (2, 3, 25, 400):
                line = [rng.randint(1, names)]
                while len(line) < size:
                    name = rng.randint(1, names)
                    if name != line[-1] and (len(line) < size - 1 or name != line[0]):
                        line.append(name)
                    elif names == 2:
                        line.append(3 - line[-1])
                self.check(problem, rounds, names, tuple(line))

    def test_wrong_values(self):
        for call in (step_answer, step_labelling):
            for rounds in (-1, 7, True, None):
                self.assertEqual(raised(BadNumber, call, brute.COLOURS, rounds, None, None).part, "rounds")
            for names in (0, 201, True, None):
                self.assertEqual(raised(BadNumber, call, brute.COLOURS, 6, names, None).part, "names")
            for thing in STRANGE + (PathProblem(1, [], [], []),):
                self.assertIsNone(raised(BadProblem, call, thing, None, None, None).part)
        for window in STRANGE + ((1, 2), (1, 2, 4), (1, 1, 2), (1, 2, 2), (0, 1, 2), [1, 2, 3], (True, 2, 3), (1, 2, 3, 1)):
            self.assertEqual(raised(BadNumber, step_answer, brute.COLOURS, 1, 3, window).part, "window")
        for line in STRANGE + ((1,), (1, 1), (1, 2, 1), (1, 2, 4), [1, 2], (1, True), (1, 2) * 200 + (3,)):
            raised(BadColouring, step_labelling, brute.COLOURS, 1, 3, line)
        self.assertEqual(raised(TooMany, step_answer, whole_problem(5), 1, 200, (1, 2, 1)).most, 4096)
        self.assertEqual(raised(TooMany, step_labelling, whole_problem(5), 1, 200, (1, 2)).most, 4096)
        raised(NoProgram, step_answer, problem=brute.CHESS, rounds=6, names=3, window=(1, 2) * 6 + (1,))
        self.assertIn(step_answer(brute.COLOURS, 1, 4, (1, 2, 1)), (0, 1, 2))

    def test_what_is_handed_in_stays(self):
        problem = RingProblem(3, brute.COLOURS.pairs)
        before = copy.deepcopy(problem)
        for call, rest in ((least_table, (1, 4)), (bar_of_tables, (0, 4)), (most_names, (1, "unlike")),
                           (step_labelling, (1, 3, (1, 2, 3)))):
            call(problem, *rest)
            self.assertEqual(problem, before)


if __name__ == "__main__":
    unittest.main()
