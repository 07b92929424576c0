"""Programs: problems with a tuple of stages, and how many rounds these need."""

from roundwright.basics import is_within
from roundwright.errors import BadProgram
from roundwright.problems import check_problem

MOST_STAGES = 200
MOST_GAP = 1000000
MOST_SIGN = 1000000
#: For each word of a stage what stands behind it: a reach, a sign or a label.
STAGE_PARTS = {
    "names": (), "bits": ("reach",), "drop": ("sign", "reach"), "stay": ("reach",), "clear": ("reach",),
    "fill": ("label", "reach"), "all": ("label",), "whole": ("reach",)}


def _is_part(problem, kind, thing):
    if kind == "reach":
        return is_within(thing, 1, MOST_GAP)
    if kind == "sign":
        return is_within(thing, 0, MOST_SIGN)
    return is_within(thing, 0, problem.labels - 1)


def _is_stage(problem, thing):
    if not isinstance(thing, tuple) or thing == () or not isinstance(thing[0], str) or thing[0] not in STAGE_PARTS:
        return False
    kinds = STAGE_PARTS[thing[0]]
    if len(thing) != len(kinds) + 1:
        return False
    return all([_is_part(problem, kind, part) for kind, part in zip(kinds, thing[1:])])


class Program:
    """A problem with the stages that all houses go through."""

    def __init__(self, problem, stages):
        check_problem(problem)
        if not isinstance(stages, tuple) or len(stages) > MOST_STAGES:
            raise BadProgram(None)
        for number, stage in enumerate(stages):
            if not _is_stage(problem, stage):
                raise BadProgram(number)
        self.problem = problem
        self.stages = stages

    def __eq__(self, other):
        return isinstance(other, Program) and self.problem == other.problem and self.stages == other.stages


def check_program(program):
    """BadProgram(None) unless a Program."""
    if not isinstance(program, Program):
        raise BadProgram(None)


def stage_reach(stage):
    """How far a house hears in a stage, 0 if it needs no round."""
    return stage[-1] if "reach" in STAGE_PARTS[stage[0]] else 0


def rounds_of(program):
    """How many rounds a program needs."""
    check_program(program)
    wholes = [stage_reach(stage) for stage in program.stages if stage[0] == "whole"]
    others = [stage_reach(stage) for stage in program.stages if stage[0] != "whole"]
    stays = [stage_reach(stage) for stage in program.stages if stage[0] == "stay"]
    return max(wholes + [sum(others) + sum(stays)])
