"""Promises 80 to 82 and 85: texts of problems and of programs, their tails, and the places of errors."""

import itertools
import random
import re
import string
import unittest

from roundwright.errors import BadNames, BadProblem, BadProgram, BadText
from roundwright.examples import examples
from roundwright.problems import PathProblem, RingProblem
from roundwright.problemtexts import problem_of_text, problem_text, tail_of_problem_text
from roundwright.programtexts import program_of_text, program_text, tail_of_program_text
from roundwright.stages import Program
from tests import brute
from tests.brute import STRANGE, raised

WORDS_12 = tuple("abcdefghijkl")
LONG_12 = tuple("abcdefghijk" + letter for letter in "lmnopqrstuvw")


def slow_set(tokens, words):
    """The labels of a SET, None if it is none."""
    if tokens == ["all"]:
        return list(range(len(words)))
    some = tokens[2:] if tokens[:2] == ["all", "but"] else tokens
    if not some or len(set(some)) < len(some) or not set(some) <= set(words):
        return None
    if tokens[:2] == ["all", "but"]:
        return [at for at, word in enumerate(words) if word not in some] or None
    return [words.index(word) for word in some]


def slow_lines(text):
    """The tokens of the lines of a text; None if there is something else, or a line without a token."""
    lines = []
    for line in text.split("\n"):
        if not re.fullmatch("(?: |[a-z]|->|[0-9])+", line) or not line.strip(" "):
            return None
        lines.append(re.findall("[a-z]+|->|[0-9]+", line))
    return lines


def slow_problem(lines):
    """The pair that lines tell, None if they are no text of a problem."""
    if lines is None or len(lines) < 2 or lines[0] not in (["ring"], ["path"]) or lines[1][0] != "labels":
        return None
    words = lines[1][1:]
    if not 1 <= len(words) <= 12 or len(set(words)) < len(words):
        return None
    if not all(re.fullmatch("[a-z]{1,12}", word) and word not in ("all", "but", "then") for word in words):
        return None
    path = lines[0] == ["path"]
    edges = []
    if path:
        if len(lines) < 4 or [lines[2][0], lines[3][0]] != ["starts", "ends"]:
            return None
        for line in lines[2:4]:
            if len(set(line[1:])) < len(line[1:]) or not set(line[1:]) <= set(words):
                return None
            edges.append([words.index(word) for word in line[1:]])
    pairs = set()
    for line in lines[4 if path else 2:]:
        if line.count("->") != 1:
            return None
        sides = [slow_set(line[:line.index("->")], words), slow_set(line[line.index("->") + 1:], words)]
        if None in sides:
            return None
        pairs.update(itertools.product(*sides))
    made = PathProblem(len(words), list(pairs), *edges) if path else RingProblem(len(words), list(pairs))
    return made, tuple(words)


def slow_number(token, least):
    return token.isdigit() and str(int(token)) == token and least <= int(token) <= 10 ** 6


def slow_stage(tokens, words):
    forms = {"names": [], "bits": ["within", "G"], "drop": ["C", "within", "G"], "stay": ["within", "G"],
             "clear": ["within", "G"], "fill": ["W", "within", "G"], "all": ["W"], "whole": ["within", "G"]}
    if tokens[0] not in forms or len(tokens) != len(forms[tokens[0]]) + 1:
        return None
    stage = [tokens[0]]
    for form, token in zip(forms[tokens[0]], tokens[1:]):
        if form in ("C", "G"):
            if not slow_number(token, 0 if form == "C" else 1):
                return None
            stage.append(int(token))
        elif form == "W":
            if token not in words:
                return None
            stage.append(words.index(token))
        elif token != form:
            return None
    return tuple(stage)


def slow_program(lines):
    if lines is None or ["then"] not in lines:
        return None
    middle = lines.index(["then"])
    told = slow_problem(lines[:middle])
    if told is None or len(lines) - middle - 1 > 200:
        return None
    stages = [slow_stage(line, told[1]) for line in lines[middle + 1:]]
    return None if None in stages else (Program(told[0], tuple(stages)), told[1])


def slow_told(text, programs):
    return (slow_program if programs else slow_problem)(slow_lines(text))


def random_naming(rng, labels):
    words = set()
    while len(words) < labels:
        word = "".join(rng.choice("abt") for _ in range(rng.choice((1, 1, 2, 3))))
        if word not in ("but", "all", "then"):
            words.add(word)
    return tuple(sorted(words, key=lambda _: rng.random()))


def blanked(rng, text):
    """The same text with other blanks."""
    found = []
    for line in text.split("\n"):
        parts = re.findall("[a-z]+|->|[0-9]+", line)
        told = " " * rng.choice((0, 0, 2))
        for at, part in enumerate(parts):
            needed = at > 0 and part[0].isalpha() and parts[at - 1][0].isalpha()
            needed = needed or (at > 0 and part[0].isdigit() and parts[at - 1][0].isdigit())
            told += " " * (rng.choice((1, 3)) if needed else rng.choice((0, 0, 1))) + part
        found.append(told + " " * rng.choice((0, 0, 1)))
    return "\n".join(found)


SAMPLES = (
    "ring\nlabels a b\nall b", "ring\nlabels a b\na->all but b", "path\nlabels a ab\nstarts ab\nends\nab a->ab",
    "ring\nlabels t th\nth->t", "ring\nlabels a\nall->all\na->a", "path\nlabels al all b", "ring\nlabels bu buts\nall bu",
    "  ring \n labels  a  \n a ->  a ", "ring\nlabels a a", "path\nlabels starts ends\nstarts ends starts\nends starts")
PROGRAMS = (
    "ring\nlabels a b\na->b\nthen\nfill b within 12\nall a", "ring\nlabels t th\nt->t\nthen\ndrop0within10",
    "path\nlabels within\nstarts\nends\nthen\nfill within within 1000000\nstay within1", "ring\nlabels a\nthen\nnames",
    "ring\nlabels a\nthen\ndrop 1000000 within 3\nbits within 2\nclear within 9\nwhole within 400")


class TestExactness(unittest.TestCase):
    def check_tail(self, text, programs, most, signs):
        """Hold the tail against all strings of at most so many of these signs."""
        tail = (tail_of_program_text if programs else tail_of_problem_text)(text)
        if tail is not None:
            self.assertIsNotNone(slow_told(text + tail, programs), (text, tail))
        for size in range(most + 1):
            if tail is not None and len(tail) < size:
                return
            found = next((more for more in map("".join, itertools.product(signs, repeat=size))
                          if slow_told(text + more, programs) is not None), None)
            if found is not None or (tail is not None and len(tail) == size):
                self.assertEqual(found, tail, text)
                return

    def test_tails_of_all_beginnings(self):
        signs = sorted("\n ->" + string.ascii_lowercase)
        for text in SAMPLES:
            for at in range(len(text) + 1):
                self.check_tail(text[:at], False, 2, signs)
        few = sorted("\n ->abtluhends")
        for text in SAMPLES[:4]:
            for at in range(14, len(text) + 1, 2):
                self.check_tail(text[:at], False, 4, few)

    def test_tails_of_all_beginnings_of_programs(self):
        signs = sorted("\n ->019" + string.ascii_lowercase)
        for text in PROGRAMS:
            for at in range(len(text) + 1):
                self.check_tail(text[:at], True, 2, signs)

    def test_places_of_errors(self):
        # Each text with one sign changed: ahead of the place told all can go on, with the next sign nothing can.
        rng = random.Random(801)
        for texts, programs in ((SAMPLES, False), (PROGRAMS, True)):
            tail_of = tail_of_program_text if programs else tail_of_problem_text
            value_of = program_of_text if programs else problem_of_text
            for text in texts:
                for at in range(len(text)):
                    for sign in rng.sample("\n ->01abtlin", 4) + ["A", "\t"]:
                        bent = text[:at] + sign + text[at + 1:]
                        told = slow_told(bent, programs)
                        if told is not None:
                            self.assertEqual(value_of(bent), told)
                            self.assertEqual(tail_of(bent), "")
                            continue
                        place = raised(BadText, value_of, bent).at
                        self.assertIsNotNone(tail_of(bent[:place]))
                        self.assertIsNotNone(slow_told(bent[:place] + tail_of(bent[:place]), programs))
                        if place < len(bent):
                            self.assertIsNone(tail_of(bent[:place + 1]))
                            self.assertIsNone(tail_of(bent))
                            self.check_tail(bent[:place + 1], programs, 1, sorted("\n ->019" + string.ascii_lowercase))
                        else:
                            self.assertNotEqual(tail_of(bent), "")

    def test_dead_ends_stay_dead(self):
        for text in ("ring\nlabels a\nall b", "ring\nlabels a b\na a", "ring\nlabels a b\nall but a b", "ring\nlabels al\nb",
                     "ring\nlabels a\n\n", "ring\nlabels a\na->a->", "ring\nlabels a\na-a", "path\nlabels a\nends",
                     "path\nlabels a b\nstarts b b", "ring \nlabels\n", "ringlabels"):
            self.assertIsNone(tail_of_problem_text(text), text)
            self.check_tail(text, False, 3, sorted("\n ->abut"))

    def test_told_by_the_document(self):
        self.assertEqual(tail_of_problem_text(""), "ring\nlabels a")
        self.assertEqual(tail_of_problem_text("ring\nlabels a b\nall b"), "ut a->a")
        # A word told twice: wrong at the sign behind it, but at its last letter if it has 12.
        self.assertEqual(raised(BadText, problem_of_text, "ring\nlabels abc abc\n").at, 19)
        self.assertEqual(raised(BadText, problem_of_text, "ring\nlabels abc abc").at, 19)
        self.assertEqual(tail_of_problem_text("ring\nlabels abc abc"), "a")
        self.assertEqual(tail_of_problem_text("ring\nlabels a aa ab a"), "c")
        twelve = "abcdefghijkl"
        self.assertEqual(raised(BadText, problem_of_text, f"ring\nlabels {twelve} {twelve}").at, 36)
        self.assertEqual(raised(BadText, problem_of_text, f"ring\nlabels {twelve}m").at, 24)
        # A 13th label: at its first letter; "all" as a label: at the sign behind it.
        text = "ring\nlabels " + " ".join(WORDS_12)
        self.assertEqual(tail_of_problem_text(text), "")
        self.assertEqual(tail_of_problem_text(text + " "), "")
        self.assertEqual(raised(BadText, problem_of_text, text + " m").at, len(text) + 1)
        for word in ("all", "but", "then"):
            self.assertEqual(raised(BadText, problem_of_text, f"ring\nlabels {word} b").at, 12 + len(word))
            self.assertEqual(tail_of_problem_text(f"ring\nlabels {word}"), "a")
        self.assertEqual(tail_of_program_text(""), "ring\nlabels a\nthen")
        self.assertEqual(tail_of_program_text("ring\nlabels tab\nt"), "hen")
        self.assertEqual(tail_of_program_text("ring\nlabels tab\nta"), "b->all\nthen")
        self.assertIsNone(tail_of_problem_text("ring\nlabels a\nt"))
        self.assertEqual(raised(BadText, problem_of_text, "ring\nlabels a\n").at, 14)
        self.assertEqual(tail_of_problem_text("ring\nlabels a\n"), "a->a")

    def test_the_newline_behind_the_last_stage(self):
        text = "ring\nlabels a\nthen" + "\nall a" * 200
        self.assertEqual(tail_of_program_text(text), "")
        self.assertEqual(len(program_of_text(text)[0].stages), 200)
        self.assertEqual(raised(BadText, program_of_text, text + "\n").at, len(text))
        self.assertIsNone(tail_of_program_text(text + "\nall a"))
        self.assertEqual(tail_of_program_text(text[:-6] + "\n"), "all a")
        self.assertEqual(program_of_text("ring\nlabels a\nthen")[0].stages, ())

    def test_figures(self):
        head = "ring\nlabels a\nthen\n"
        for line, place in (("bits within 0", 12), ("bits within 01", 12), ("bits within 1000001", 18),
                            ("bits within 10000000", 19), ("drop 00 within 1", 6), ("drop 01 within 1", 6),
                            ("drop 1000001 within 1", 11), ("drop within 1", 5), ("bits within", 11), ("bits with 1", 9),
                            ("bits within 1 1", 14), ("fill b within 1", 5), ("fill a", 6), ("all", 3), ("names 1", 6),
                            ("all a a", 6), ("whole 1", 6)):
            self.assertEqual(raised(BadText, program_of_text, head + line).at, len(head) + place, line)
        for line, stage in (("drop5within12", ("drop", 5, 12)), ("drop 0 within 1000000", ("drop", 0, 10 ** 6)),
                            ("drop1000000within1", ("drop", 10 ** 6, 1)), ("  fill  a within1 ", ("fill", 0, 1))):
            self.assertEqual(program_of_text(head + line)[0].stages, (stage,))


class TestTexts(unittest.TestCase):
    def test_there_and_back(self):
        rng = random.Random(802)
        for problem in brute.random_problems(803, 80, 5) + brute.tiny_problems():
            names = random_naming(rng, problem.labels)
            text = problem_text(problem, names)
            self.assertEqual(problem_of_text(text), (problem, names))
            self.assertEqual(slow_told(text, False), (problem, names))
            other = blanked(rng, text)
            self.assertEqual(problem_of_text(other), (problem, names))
            self.assertEqual(tail_of_problem_text(other), "")
            program = Program(problem, (("names",), ("drop", 7, 3), ("fill", 0, 2), ("all", problem.labels - 1)))
            text = program_text(program, names)
            self.assertEqual(program_of_text(text), (program, names))
            self.assertEqual(slow_told(text, True), (program, names))
            self.assertEqual(program_of_text(blanked(rng, text)), (program, names))

    def test_form(self):
        problem = PathProblem(3, [(0, 1), (0, 2), (2, 0)], [2, 0], [])
        self.assertEqual(problem_text(problem, ("x", "al", "buts")),
                         "path\nlabels x al buts\nstarts x buts\nends\nx -> al buts\nbuts -> x")
        self.assertEqual(problem_text(problem=RingProblem(1, []), names=("ring",)), "ring\nlabels ring")
        program = Program(RingProblem(1, [(0, 0)]), (
            ("names",), ("bits", 1), ("drop", 0, 2), ("stay", 3), ("clear", 4), ("fill", 0, 5), ("all", 0), ("whole", 6)))
        self.assertEqual(program_text(program=program, names=("a",)),
                         "ring\nlabels a\na -> a\nthen\nnames\nbits within 1\ndrop 0 within 2\nstay within 3\n"
                         "clear within 4\nfill a within 5\nall a\nwhole within 6")

    def test_examples(self):
        for one, other in examples():
            problem, names = problem_of_text(one)
            self.assertEqual(problem_text(problem, names), one)
            program, same = program_of_text(other)
            self.assertEqual((program.problem, same), (problem, names))
            self.assertEqual(program_text(program, names), other)
            for at in range(len(other) + 1):
                tail = tail_of_program_text(other[:at])
                self.assertIsNotNone(slow_told(other[:at] + tail, True))
                self.assertIs(tail == "", slow_told(other[:at], True) is not None)

    def test_sets(self):
        told = problem_of_text("ring\nlabels a b c\nall->a\nb c->all but a b\na->b\na->b")
        self.assertEqual(told, (RingProblem(3, [(0, 0), (1, 0), (2, 0), (1, 2), (2, 2), (0, 1)]), ("a", "b", "c")))

    def test_limits(self):
        for names in (WORDS_12, LONG_12):
            for problem in (brute.WHOLE_12, brute.LINE_12, PathProblem(12, brute.WHOLE_12.pairs, list(range(12)), [])):
                text = problem_text(problem, names)
                self.assertEqual(problem_of_text(text), (problem, names))
                program = Program(problem, (("fill", 11, 10 ** 6), ("drop", 10 ** 6, 1)) * 100)
                self.assertEqual(program_of_text(program_text(program, names)), (program, names))
        text = problem_text(brute.WHOLE_12, LONG_12)
        for at in range(0, len(text), 37):
            tail = tail_of_problem_text(text[:at])
            self.assertIsNotNone(slow_told(text[:at] + tail, False))
        self.assertEqual(tail_of_problem_text("path\nlabels " + " ".join(WORDS_12)), "\nstarts\nends")
        self.assertEqual(tail_of_problem_text("ring\nlabels " + " ".join(LONG_12) + "\na"), "ll->all")

    def test_wrong_values(self):
        for call in (tail_of_problem_text, problem_of_text, tail_of_program_text, program_of_text):
            for thing in (None, True, 3, b"ring", ["ring"], ("r",), {}, object()):
                self.assertIsNone(raised(BadText, call, text=thing).at)
        good = RingProblem(2, [])
        bad = STRANGE + (["a", "b"], ("a",), ("a", "b", "c"), ("a", "a"), ("a", "all"), ("but", "a"), ("then", "a"),
                         ("a", ""), ("a", "a" * 13), ("a", "B"), ("a", "b1"), ("a", "b "), ("a", None), ("a", 1), "ab",
                         (brute.Odd(), "a"), ("a", "\u00e4"))
        for names in bad:
            raised(BadNames, problem_text, good, names)
            raised(BadNames, program_text, Program(good, ()), names)
        for thing in STRANGE:
            self.assertIsNone(raised(BadProblem, problem_text, thing, None).part)
            self.assertIsNone(raised(BadProgram, program_text, thing, None).part)
        self.assertIsNone(raised(BadProgram, program_text, good, ("a", "b")).part)
        for sign in ("\u00e4", "\u0661", "\r", "\u2028", "\x1f", "R"):
            self.assertEqual(raised(BadText, problem_of_text, "ring" + sign).at, 4)
        self.assertEqual(raised(BadText, program_of_text, "ring\nlabels a\nthen\ndrop \u0661").at, 24)


if __name__ == "__main__":
    unittest.main()
