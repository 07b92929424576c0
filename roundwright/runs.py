"""Runs of programs on nets."""

from roundwright.basics import is_within
from roundwright.errors import BadNumber
from roundwright.lines import Line
from roundwright.nets import check_net
from roundwright.problems import MOST_HOUSES, RingProblem
from roundwright.stages import check_program, rounds_of


def run_states(program, net):
    """The list of the triples of signs, marks and answers: at the beginning and behind each stage."""
    check_program(program)
    check_net(net)
    line = Line(program.problem, net, False)
    found = [line.triple()]
    for stage in program.stages:
        line.step(stage)
        found.append(line.triple())
    return found


def ran(program, net):
    """The tuple of the last answers."""
    return run_states(program, net)[-1][2]


def rounds_at(program, size):
    """How many rounds a program needs at a size."""
    check_program(program)
    if not is_within(size, 1, MOST_HOUSES):
        raise BadNumber("size")
    ring = isinstance(program.problem, RingProblem)
    for stage in program.stages:
        if stage[0] in ("all", "fill"):
            break
        if stage[0] == "whole" and size <= (2 * stage[1] if ring else stage[1]):
            return (size + 1) // 2 if ring else size
    return rounds_of(program)
