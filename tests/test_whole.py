"""Promise 2: what the whole program guarantees, on drawn inputs that go through several of its files."""

import random
import unittest

from roundwright.against import against
from roundwright.bars import is_map_bar
from roundwright.classes import class_of
from roundwright.classpapers import is_paper, paper_of
from roundwright.desk import Desk
from roundwright.houselogs import log_of, read_log
from roundwright.joins import joined
from roundwright.journals import taken_up
from roundwright.likes import useful_form
from roundwright.making import made
from roundwright.nettexts import net_of_text, net_text
from roundwright.posts import Post
from roundwright.problems import RingProblem, is_right, some_labelling
from roundwright.programtables import table_of
from roundwright.programtexts import program_of_text, program_text
from roundwright.renumbers import renumbered_table
from roundwright.runs import ran
from roundwright.sizes import has_size
from roundwright.sizing import sizes_of
from roundwright.stages import Program, rounds_of
from roundwright.starmakers import starred
from roundwright.stepping import most_names
from roundwright.stepprograms import step_labelling
from roundwright.tablemaps import bar_of_tables, least_table
from roundwright.tables import answered, is_sound
from roundwright.treechains import is_chain, is_hub, longest_chain, some_hub
from roundwright.treemakers import labelled
from roundwright.treeproblems import first_wrong
from roundwright.treestars import is_star, is_still, some_star, some_still, tree_class
from roundwright.webs import web_of
from roundwright.wides import WideProblem, as_pairs, brought_back, is_right_wide
from roundwright.windows import window_web
from roundwright.works import in_rounds
from tests import brute
from tests.test_posts import random_stepper
from tests.test_runs import random_net
from tests.test_trees import random_problem
from tests.test_treestars import random_tree


class TestRingsAndPaths(unittest.TestCase):
    def test_classes_programs_and_sizes(self):
        rng = random.Random(731)
        for problem in brute.random_problems(732, 80, 5):
            told = class_of(problem)
            self.assertTrue(is_paper(problem, paper_of(problem)))
            self.assertEqual(paper_of(problem)[0], told)
            names = tuple("abcdefghijkl"[:problem.labels])
            program, _ = program_of_text(program_text(made(problem), names))
            self.assertEqual(program, made(problem))
            if brute.is_ring(problem):
                words = {"loop": "all", "bending": "fill"}
                self.assertEqual(program.stages[-1][0], words.get(told, "whole"))
            for size in rng.sample(range(1, 80), 6):
                net = net_of_text(net_text(random_net(rng, size)))
                found = ran(program, net)
                there = has_size(sizes_of(problem), size)
                self.assertEqual(some_labelling(problem, size) is not None, there)
                self.assertTrue(is_right(problem, found) if there else found == (-1,) * size)

    def test_what_is_no_use_changes_no_rightness(self):
        rng = random.Random(733)
        for problem in brute.random_problems(734, 60, 5):
            lean = useful_form(problem)
            both = joined(problem, problem) if problem.labels < 7 else problem
            for size in (1, 2, 9, 50):
                net = random_net(rng, size)
                there = some_labelling(problem, size) is not None
                self.assertEqual(is_right(both, ran(made(both), net)), there)
                if lean is not None:
                    found = ran(made(lean[0]), net)
                    named = tuple(lean[1][label] if label >= 0 else -1 for label in found)
                    self.assertEqual(is_right(problem, named), there)

    def test_programs_by_letters_and_as_tables(self):
        rng = random.Random(735)
        for problem in brute.random_rings(736, 60, 3):
            program = Program(problem, (("bits", 1), ("drop", 1, 1), ("all", rng.randrange(problem.labels))))
            table = table_of(program, 6) if rounds_of(program) == 2 else None
            net = random_net(rng, 6, 6)
            choices = [rng.randrange(99) for _ in range(7)]
            self.assertEqual(Post(program, "ring", net, 2).ended(choices), ran(program, net))
            self.assertEqual(Post(table, "ring", net, 2).ended(choices), answered(table, net))
            self.assertEqual(ran(program, net), answered(table, net))

    def test_tables_and_webs(self):
        rng = random.Random(737)
        seen = set()
        for problem in brute.random_rings(738, 60, 4):
            most = most_names(problem, 2, "next")
            for names in (3, 4, 5):
                table, bar = least_table(problem, 1, names), bar_of_tables(problem, 1, names)
                seen.add(table is None)
                if table is not None:
                    self.assertTrue(is_sound(problem, table))
                    order = tuple(rng.sample(range(problem.labels), problem.labels))
                    moved = RingProblem(problem.labels, [(order[a], order[b]) for a, b in problem.pairs])
                    self.assertTrue(is_sound(moved, renumbered_table(table, order)))
                else:
                    self.assertTrue(is_map_bar(window_web(names, 2, "unlike"), web_of(problem), bar))
                    # What neighbours alone being unlike is enough for unlike names are enough for, too.
                    self.assertTrue(most is not None and most < names)
            if most is None or most >= 3:
                labelling = step_labelling(problem, 1, 3, (1, 2, 3, 1, 3))
                self.assertTrue(is_right(problem, labelling))
        self.assertEqual(seen, {True, False})

    def test_wide_problems(self):
        rng = random.Random(739)
        for _ in range(60):
            windows = [(a, b, c) for a in range(3) for b in range(3) for c in range(3) if rng.random() < 0.5]
            problem = WideProblem(3, 3, windows)
            pairs, _ = as_pairs(problem)
            for size in (1, 2, 3, 7, 40):
                found = ran(made(pairs), random_net(rng, size))
                if some_labelling(pairs, size) is not None:
                    self.assertTrue(is_right_wide(problem, brought_back(problem, found)))
                else:
                    self.assertEqual(found, (-1,) * size)


class TestTrees(unittest.TestCase):
    def test_each_problem_is_of_one_class(self):
        rng = random.Random(740)
        classes = set()
        for _ in range(60):
            problem = random_problem(rng, 4, rng.randint(1, 3))
            told = tree_class(problem)
            classes.add(told[0])
            chain, hub, star, still = longest_chain(problem), some_hub(problem), some_star(problem), some_still(problem)
            self.assertTrue(chain is None or chain == () or is_chain(problem, chain))
            for thing, judge in ((hub, is_hub), (star, is_star), (still, is_still)):
                self.assertTrue(thing is None or judge(problem, thing))
            tree = random_tree(rng, problem.arms, 60)
            if told[0] != "never":
                self.assertIsNone(first_wrong(problem, tree, labelled(problem, tree)[0]))
            if told[0] in ("star", "fixed"):
                self.assertIsNone(first_wrong(problem, tree, starred(problem, tree)[0]))
            else:
                tree = against(problem, lambda told: told[0] % problem.labels, 2)
                labels = tuple(name % problem.labels for name, _ in tree)
                self.assertIsNotNone(first_wrong(problem, tree, labels))
        self.assertTrue({"never", "fixed"} <= classes)


class TestLettersAndSessions(unittest.TestCase):
    def test_logs_tell_what_letters_lead_to(self):
        rng = random.Random(741)
        for _ in range(40):
            stepper, kind = random_stepper(rng), rng.choice(("ring", "path"))
            net, rounds = random_net(rng, rng.randint(1, 6)), rng.randint(1, 9)
            self.assertEqual(Post(stepper, kind, net, rounds).ended([rng.randrange(99), 5]),
                             in_rounds(stepper, kind, net, rounds))
            for place, name in enumerate(net):
                states = [in_rounds(stepper, kind, net, number)[place] for number in range(rounds + 1)]
                told = log_of(stepper, name, 0, states)
                for cut in range(len(told) + 1):
                    first, found, good, why = read_log(stepper, name, told[:cut])
                    self.assertEqual((first, found, good), (0, tuple(states[:cut // 4]), cut // 4 * 4))
                    self.assertEqual(why, "torn" if cut % 4 else "whole")

    def test_desks_and_journals(self):
        rng = random.Random(742)
        for problem in brute.random_problems(743, 40, 4):
            net = random_net(rng, rng.randint(1, 5), 9)
            desk = Desk(problem, net)
            for _ in range(15):
                name = rng.randint(1, 9)
                desk.say(rng.choice((f"mend {name}", f"come {name} 0", f"leave {name}", f"label {name} 0", "undo", "go 2")))
            lines = desk.say("journal")
            lines = [] if lines == ("nothing",) else list(lines)
            again = taken_up(problem, net, lines)
            self.assertEqual(again.houses(), desk.session.houses())
            self.assertEqual(again.line(), desk.session.line())


if __name__ == "__main__":
    unittest.main()
