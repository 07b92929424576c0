"""The interface and promise 3: names, parameters and their names, and what is common to all functions."""

import copy
import importlib
import inspect
import unittest

from roundwright.desk import Desk
from roundwright.diskhouses import DiskHouse
from roundwright.errors import BadProblem, RoundError
from roundwright.leads import Lead
from roundwright.posts import Post
from roundwright.problems import PathProblem, RingProblem
from roundwright.sessions import Session
from roundwright.sides import SideProblem
from roundwright.sizes import Sizes
from roundwright.stages import Program
from roundwright.steppers import Stepper
from roundwright.tables import Table
from roundwright.treeproblems import TreeProblem
from roundwright.webs import Web
from roundwright.wides import WideProblem
from tests import brute

#: For each file the functions and classes with their parameters.
INTERFACE = {
    "problems": {
        "RingProblem": "labels pairs", "PathProblem": "labels pairs starts ends", "is_right": "problem thing",
        "first_break": "problem labelling", "some_labelling": "problem size", "how_many": "problem size"},
    "nets": {"is_net": "thing", "ring_window": "net place rounds", "path_window": "net place rounds"},
    "tables": {
        "Table": "labels rounds names answers", "answered": "table net", "is_sound": "problem table",
        "unsound_ring": "problem table"},
    "drafts": {
        "is_draft": "problem thing", "is_fair": "problem draft", "fills": "problem draft",
        "least_fill": "problem draft", "free_labels": "problem draft place"},
    "examples": {"examples": ""},
    "joins": {"joined": "problem other", "crossed": "problem other", "backwards": "problem"},
    "mends": {"reach_at": "problem draft place", "mended": "problem draft place", "mended_whole": "problem draft"},
    "parts": {"useful": "problem", "strong_parts": "problem", "round_period": "problem label"},
    "classes": {"class_of": "problem"},
    "closedwalks": {
        "round_at": "problem label size", "shortest_round": "problem label", "bends": "problem label",
        "bends_from": "problem label"},
    "classpapers": {"is_paper": "problem thing", "paper_of": "problem"},
    "likes": {
        "relabelled": "problem names", "relabelling": "problem other", "least_form": "problem",
        "useful_form": "problem"},
    "reaches": {"mending": "problem", "stuck": "problem reach"},
    "renumbers": {"renumbered_labelling": "problem labelling order", "renumbered_table": "table order"},
    "sessions": {"is_deed": "problem thing", "deed_done": "problem houses deed", "Session": "problem net"},
    "deedtexts": {
        "deed_text": "problem deed", "deed_of_text": "problem text", "draft_text": "problem draft",
        "draft_of_text": "problem text"},
    "journals": {"journal": "session", "taken_up": "problem net lines"},
    "sides": {
        "SideProblem": "labels tops lines", "is_right_sides": "problem thing",
        "first_side_break": "problem labelling", "turned": "labelling", "some_sides": "problem size",
        "how_many_sides": "problem size"},
    "sidesizes": {"side_sizes": "problem", "is_side_size": "problem size"},
    "pieces": {"can_stand_in_ring": "problem thing", "pieces": "problem many", "ring_with": "problem piece"},
    "leads": {
        "Lead": "first second rounds answers", "led": "lead labelling", "bad_piece": "lead", "is_right_lead": "lead"},
    "leadchains": {
        "own_lead": "problem", "widened": "lead rounds", "after": "lead other", "leads_alike": "lead other",
        "two_way": "problem"},
    "leadsearch": {"least_lead": "first second rounds", "fewest_rounds_lead": "first second most"},
    "sidestates": {
        "mirror": "state", "states": "problem", "next_states": "problem state", "is_state_walk": "problem thing",
        "walk_of": "problem one other steps", "as_ring": "problem"},
    "sideclasses": {"side_class": "problem", "side_paper": "problem", "is_side_paper": "problem thing"},
    "bends": {"bend": "problem state", "filled": "problem state marks"},
    "sizes": {
        "Sizes": "begin period told", "has_size": "sizes size", "next_size": "sizes size", "how_many_sizes": "sizes",
        "least_sizes": "sizes", "both_sizes": "sizes other", "either_sizes": "sizes other",
        "unlike_size": "sizes other"},
    "sizing": {
        "sizes_of": "problem", "round_sizes": "problem label", "problem_of_sizes": "sizes", "flower": "lengths"},
    "stages": {"Program": "problem stages", "rounds_of": "program"},
    "steppers": {"Stepper": "states first steps"},
    "fronts": {
        "is_front": "kind thing", "front_leads": "kind one other", "fronts_between": "kind one other",
        "how_many_fronts": "kind size rounds", "orders_to": "kind front", "last_front_below": "kind numbers",
        "first_front_above": "kind numbers"},
    "cones": {
        "needed": "kind size place rounds", "how_many_needed": "kind size place rounds",
        "last_front": "kind size rounds lost", "fewest_lost": "kind front rounds"},
    "goings": {"held_up": "kind spans", "end_of": "kind spans rounds", "safe_firsts": "kind lasts"},
    "houselogs": {"log_of": "stepper name first states", "read_log": "stepper name thing"},
    "diskhouses": {"DiskHouse": "stepper name sides thing", "fallen_house": "house kept"},
    "problemtexts": {"problem_text": "problem names", "tail_of_problem_text": "text", "problem_of_text": "text"},
    "nettexts": {"net_text": "net", "tail_of_net_text": "text", "net_of_text": "text"},
    "programtexts": {"program_text": "program names", "tail_of_program_text": "text", "program_of_text": "text"},
    "rectangles": {
        "rectangles": "problem", "is_cover": "problem thing", "is_bar": "problem number thing",
        "fewest_lines": "problem", "short_text": "problem names"},
    "treeproblems": {
        "TreeProblem": "labels arms rows", "is_tree": "arms thing", "first_wrong": "problem tree labelling",
        "how_many_right": "problem tree", "least_right": "problem tree", "ball": "tree place rounds"},
    "spacing": {"spaced": "names gap"},
    "treelayers": {"layers": "tree rakes far"},
    "trims": {"roots": "problem some height", "trimmed": "problem some", "steady": "problem some"},
    "freesets": {
        "walk": "problem some top bottom steps", "free_from": "problem some few", "free_sets": "problem some"},
    "treechains": {
        "is_hub": "problem thing", "is_chain": "problem thing", "longest_chain": "problem", "some_hub": "problem"},
    "treemakers": {"plan": "problem size", "labelled": "problem tree"},
    "treestars": {
        "is_star": "problem thing", "some_star": "problem", "some_still": "problem", "is_still": "problem thing",
        "tree_class": "problem"},
    "against": {"against": "problem program rounds"},
    "starmakers": {"starred": "problem tree"},
    "walks": {"least_walk_of": "problem begins ends steps"},
    "making": {"made": "problem"},
    "runs": {"run_states": "program net", "ran": "program net", "rounds_at": "program size"},
    "webs": {
        "Web": "size pairs", "web_of": "problem", "whole_web": "size", "rising_web": "size", "turned_web": "web",
        "arc_web": "web"},
    "maps": {"is_map": "one other thing", "some_map": "one other", "first_maps": "one other most"},
    "bars": {"is_map_bar": "one other thing", "map_bar": "one other"},
    "folding": {"folds": "web", "lean": "web", "lean_map": "web", "renaming": "one other"},
    "gates": {"gates": "web", "step_down": "web", "led_up": "one other thing", "led_down": "one other thing"},
    "rows": {"most_beside": "web", "most_in_row": "web"},
    "whatifs": {
        "without": "session number", "loose": "session", "exchangeable": "session", "last_change": "session name"},
    "desk": {"Desk": "problem net"},
    "wides": {
        "WideProblem": "labels width windows", "is_right_wide": "problem thing", "as_pairs": "problem",
        "brought": "problem labelling", "brought_back": "problem labelling"},
    "windowruns": {
        "answer_at": "program window", "begin_window": "program name", "next_window": "program window left right",
        "label_of": "program window"},
    "programtables": {"table_of": "program names"},
    "windows": {"all_windows": "names halves kind", "window_web": "names halves kind"},
    "stepping": {"web_stepped": "web halves", "most_names": "problem halves kind"},
    "stepprograms": {
        "step_answer": "problem rounds names window", "step_labelling": "problem rounds names colouring"},
    "tablemaps": {
        "map_of_table": "table", "least_table": "problem rounds names", "bar_of_tables": "problem rounds names"},
    "works": {"in_rounds": "work kind net rounds"},
    "posts": {"Post": "work kind net rounds"},
    "shortposts": {
        "short_run": "stepper kind net modulus deeds", "wrong_run": "modulus late"},
}
#: For each class its methods with their parameters.
METHODS = {
    Session: {"do": "deed", "undo": "", "redo": "", "go": "most", "houses": "", "deeds": "", "undone": "", "line": "",
              "reaches": ""},
    DiskHouse: {"take": "side number state", "go": "", "sync": "", "told": "number", "trim": "number"},
    Post: {"can_come": "deed", "do": "deed", "useful": "", "labels": "", "ended": "choices"},
    Desk: {"say": "line"}}
#: The files whose problems are SideProblems.
SIDES = ("sides", "sidesizes", "sidestates", "sideclasses", "bends")
WIDES = ("wides",)
#: The files whose problems are TreeProblems.
TREES = (
    "treeproblems", "trims", "freesets", "treechains", "treemakers", "treestars", "against", "starmakers")
ZEROS = {(left, 0, right): 0 for left in (0, 1) for right in (0, 1)}


class TestInterface(unittest.TestCase):
    def test_each_name_is_defined_in_its_file(self):
        for file, names in INTERFACE.items():
            module = importlib.import_module(f"roundwright.{file}")
            for name, parameters in names.items():
                thing = getattr(module, name)
                self.assertEqual(thing.__module__, f"roundwright.{file}", name)
                self.assertEqual(list(inspect.signature(thing).parameters), parameters.split(), name)
                for parameter in inspect.signature(thing).parameters.values():
                    self.assertIs(parameter.default, inspect.Parameter.empty)
                    self.assertIs(parameter.kind, inspect.Parameter.POSITIONAL_OR_KEYWORD)

    def test_methods_stand_in_the_class_itself(self):
        for kind, methods in METHODS.items():
            for name, parameters in methods.items():
                self.assertIn(name, vars(kind))
                self.assertEqual(list(inspect.signature(vars(kind)[name]).parameters), ["self"] + parameters.split())

    def test_where_a_problem_is_wanted_it_is_judged_first(self):
        for file, names in INTERFACE.items():
            module = importlib.import_module(f"roundwright.{file}")
            for name, parameters in names.items():
                if not parameters.startswith("problem"):
                    continue
                others = [SideProblem(1, [], []), TreeProblem(1, 1, [])]
                if file in SIDES or file in TREES:
                    others[0 if file in SIDES else 1] = RingProblem(1, [])
                others += [RingProblem(1, [])] if file in WIDES else [WideProblem(1, 2, [])]
                for thing in brute.STRANGE + tuple(others):
                    told = [None] * (len(parameters.split()) - 1)
                    error = brute.raised(BadProblem, getattr(module, name), thing, *told)
                    self.assertIsNone(error.part, name)
                    named = dict(zip(parameters.split(), [thing] + told))
                    self.assertIsNone(brute.raised(BadProblem, getattr(module, name), **named).part, name)

    def test_objects_are_equal_to_no_value_of_another_kind(self):
        things = [
            RingProblem(1, []), PathProblem(1, [], [], []), SideProblem(1, [], []), Table(1, 0, 1, {(1,): 0}),
            Lead(RingProblem(1, []), RingProblem(1, []), 0, {}), Session(RingProblem(1, []), (1,)),
            Sizes(0, 1, [True]), Program(RingProblem(1, []), ()), Stepper(1, [0], ZEROS), TreeProblem(1, 1, []),
            Web(1, []), WideProblem(1, 2, [])]
        for at, one in enumerate(things):
            for by, other in enumerate(things):
                self.assertIs(one == other, at == by)
                self.assertIs(one != other, at != by)
            for other in (None, 1, (), [], "RingProblem", {}, True, type(one)):
                self.assertIs(one == other, False)
            self.assertIs(one == copy.deepcopy(one), True)

    def test_all_errors_are_round_errors(self):
        for call, parts in ((RingProblem, (0, [])), (Table, (1, 0, 0, {})), (Session, (None, None))):
            with self.assertRaises(RoundError):
                call(*parts)


class TestNothingHandedInChanges(unittest.TestCase):
    def test_problems(self):
        for problem in brute.random_problems(201, 20, 4):
            before = copy.deepcopy(problem)
            for file, names in INTERFACE.items():
                module = importlib.import_module(f"roundwright.{file}")
                for name, parameters in names.items():
                    told = {
                        "table": Table(problem.labels, 0, 1, {(1,): 0}), "thing": (0,), "labelling": (0,),
                        "size": 3, "draft": (None, None), "place": 0, "label": 0,
                        "other": problem, "names": list(range(problem.labels)), "reach": 1, "many": 2, "piece": (0,),
                        "order": tuple(range(problem.labels)), "houses": ((1,), (None,)), "deed": ("mend", 1),
                        "text": "mend 1", "net": (1, 2), "lines": ["mend 1"], "stages": (("names",),), "number": 0,
                        "begins": [0], "ends": [0], "steps": 2,
                        "rounds": 1, "halves": 1, "kind": "next", "window": (1, 2, 1), "colouring": (1, 2)}
                    if not parameters.startswith("problem") or file in SIDES + TREES + WIDES:
                        continue
                    try:
                        getattr(module, name)(problem, *[told[word] for word in parameters.split()[1:]])
                    except RoundError:
                        pass
                    self.assertEqual(problem, before)
                    self.assertEqual(told["names"], list(range(problem.labels)))
                    self.assertEqual(told["lines"], ["mend 1"])


if __name__ == "__main__":
    unittest.main()
