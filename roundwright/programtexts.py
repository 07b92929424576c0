"""Programs as texts: a text of a problem, and a line for each stage."""

from roundwright.problemtexts import (
    check_naming, check_whole, problem_of_lines, problem_turn, tail_in, told_problem)
from roundwright.stages import MOST_GAP, MOST_SIGN, MOST_STAGES, STAGE_PARTS, Program, check_program
from roundwright.texts import Turn, tokens_of

#: For each word of a stage what stands behind it in its line: words, or "C", "G" and "W" for a sign, reach and label.
_FORMS = {
    "names": (), "bits": ("within", "G"), "drop": ("C", "within", "G"), "stay": ("within", "G"),
    "clear": ("within", "G"), "fill": ("W", "within", "G"), "all": ("W",), "whole": ("within", "G")}


def _stage_line(stage, names):
    words = [stage[0]]
    for kind, thing in zip(STAGE_PARTS[stage[0]], stage[1:]):
        if kind == "reach":
            words.append("within")
        words.append(names[thing] if kind == "label" else str(thing))
    return " ".join(words)


def program_text(program, names):
    """The text of a program with this naming of its problem."""
    check_program(program)
    check_naming(program.problem, names)
    lines = [told_problem(program.problem, names), "then"]
    return "\n".join(lines + [_stage_line(stage, names) for stage in program.stages])


def _stage_turn(spot):
    # A spot within the line of a stage: the words of the problem, how many stages began, and what is still to come.
    _, words, many, rest = spot
    if rest == ():
        tokens = {"\n": ("stage word", words, many)} if many < MOST_STAGES else {}
        return Turn(tokens, None, False, True)
    behind = ("stage", words, many, rest[1:])
    if rest[0] == "C":
        return Turn({}, (0, MOST_SIGN, behind), False, False)
    if rest[0] == "G":
        return Turn({}, (1, MOST_GAP, behind), False, False)
    if rest[0] == "W":
        return Turn({word: behind for word in words}, None, False, False)
    return Turn({rest[0]: behind}, None, False, False)


def program_turn(spot):
    """What may come at a spot of a text of a program."""
    if spot[0] == "stage":
        return _stage_turn(spot)
    if spot[0] == "stage word":
        _, words, many = spot
        return Turn({word: ("stage", words, many + 1, form) for word, form in _FORMS.items()}, None, False, False)
    turn = problem_turn(spot)
    tokens = {token: behind for token, behind in turn.tokens.items()}
    if spot[0] == "line":
        # The line "then" is as one of a stage of which nothing is still to come.
        tokens["then"] = ("stage", spot[1], 0, ())
    return Turn(tokens, None, turn.naming, False)


def tail_of_program_text(text):
    """The shortest string that makes a text of a program of this one, the least of several; None if none does."""
    return tail_in(program_turn, text)


def _stage_told(words, tokens):
    # The stage that the tokens of a line tell.
    told = [tokens[0]]
    for kind, token in zip(_FORMS[tokens[0]], tokens[1:]):
        if kind in ("C", "G"):
            told.append(int(token))
        elif kind == "W":
            told.append(words.index(token))
    return tuple(told)


def program_of_text(text):
    """The pair of the program that a text tells and the naming of its problem."""
    check_whole(program_turn, text)
    lines = [tokens_of(line) for line in text.split("\n")]
    middle = lines.index(["then"])
    problem, names = problem_of_lines(lines[:middle])
    stages = tuple([_stage_told(names, line) for line in lines[middle + 1:]])
    return (Program(problem, stages), names)
