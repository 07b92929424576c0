"""Problems as texts: with words for labels, and lines that tell which may stand next behind which."""

from roundwright.basics import numbers_of
from roundwright.errors import BadNames, BadText
from roundwright.problems import PathProblem, RingProblem, check_problem, problem_rows
from roundwright.texts import Turn, ends_here, is_free_word, is_word, read, shortest_tail, tokens_of

FIRST_SPOT = ("kind",)


def is_naming(problem, thing):
    """Whether a thing is a naming of the problem's labels."""
    if not isinstance(thing, tuple) or len(thing) != problem.labels:
        return False
    return all([is_word(word) for word in thing]) and all([
        is_free_word(word, thing[:at]) for at, word in enumerate(thing)])


def check_naming(problem, names):
    """BadNames unless a naming of the problem."""
    if not is_naming(problem, names):
        raise BadNames("not a naming of the problem")


def words_of(names, labels):
    """The words of labels, ascending by the labels, with one blank between."""
    return " ".join([names[label] for label in labels])


def head_lines(problem, names):
    """The lines of a text of a problem ahead of those that tell pairs."""
    if isinstance(problem, RingProblem):
        return ["ring", "labels " + " ".join(names)]
    lines = ["path", "labels " + " ".join(names)]
    for word, labels in (("starts", problem.starts), ("ends", problem.ends)):
        lines.append(" ".join([word] + [names[label] for label in labels]))
    return lines


def told_problem(problem, names):
    """As problem_text, of a problem with a naming of it."""
    lines = head_lines(problem, names)
    for label, row in enumerate(problem_rows(problem)):
        if row:
            lines.append(names[label] + " -> " + words_of(names, numbers_of(row)))
    return "\n".join(lines)


def problem_text(problem, names):
    """The text of a problem with this naming that has a line for each label."""
    check_problem(problem)
    check_naming(problem, names)
    return told_problem(problem, names)


def _unused(words, used, behind):
    # A dict from each word that is not yet used to what behind tells of the words used with it.
    return {word: behind + (used | 1 << at,) for at, word in enumerate(words) if not used >> at & 1}


def _list_turn(spot):
    # A spot within the words behind "starts" or "ends".
    name, words, used = spot
    tokens = _unused(words, used, (name, words))
    tokens["\n"] = ("ends word", words) if name == "starts" else ("line", words)
    return Turn(tokens, None, False, name == "ends")


def _set_turn(spot):
    # A spot within a SET: its side (0 or 1), the words of the problem, what it began with, and the words used.
    _, side, words, mode, used = spot
    tokens = {}
    many = len([at for at in range(len(words)) if used >> at & 1])
    if mode in ("begin", "some"):
        tokens = _unused(words, used, ("set", side, words, "some"))
    if mode == "begin":
        tokens["all"] = ("set", side, words, "all", 0)
    if mode == "all" and len(words) > 1:
        tokens["but"] = ("set", side, words, "but", 0)
    if mode == "but" and many < len(words) - 1:
        tokens = _unused(words, used, ("set", side, words, "but"))
    whole = mode == "all" or many > 0
    if whole:
        tokens["->" if side == 0 else "\n"] = ("set", 1, words, "begin", 0) if side == 0 else ("line", words)
    return Turn(tokens, None, False, whole and side == 1)


def problem_turn(spot):
    """What may come at a spot of a text of a problem."""
    name = spot[0]
    if name == "set":
        return _set_turn(spot)
    if name == "line":
        return _set_turn(("set", 0, spot[1], "begin", 0))
    if name in ("starts", "ends"):
        return _list_turn(spot)
    if name == "names":
        kind, words = spot[1:]
        behind = ("line", words) if kind == "ring" else ("starts word", words)
        return Turn({"\n": behind} if words else {}, None, True, kind == "ring" and words != ())
    if name == "kind":
        return Turn({kind: ("kind told", kind) for kind in ("path", "ring")}, None, False, False)
    if name == "kind told":
        return Turn({"\n": ("labels word", spot[1])}, None, False, False)
    if name == "labels word":
        return Turn({"labels": ("names", spot[1], ())}, None, False, False)
    word = "starts" if name == "starts word" else "ends"
    return Turn({word: (word, spot[1], 0)}, None, False, False)


def check_text(text):
    """BadText(None) unless a string."""
    if not isinstance(text, str):
        raise BadText(None)


def tail_in(grammar, text):
    """The shortest string that makes a text of a grammar of this one, None if none does."""
    check_text(text)
    at, spot, part = read(grammar, FIRST_SPOT, text)
    return shortest_tail(grammar, spot, part) if at == len(text) else None


def check_whole(grammar, text):
    """BadText(None) unless a string, BadText with the place of the error unless a text of the grammar."""
    check_text(text)
    at, spot, part = read(grammar, FIRST_SPOT, text)
    if at < len(text) or not ends_here(grammar, spot, part):
        raise BadText(at)


def tail_of_problem_text(text):
    """The shortest string that makes a text of a problem of this one, the least of several; None if none does."""
    return tail_in(problem_turn, text)


def _labels_told(words, tokens):
    # The labels of a SET.
    if tokens[0] != "all":
        return [words.index(word) for word in tokens]
    return [label for label, word in enumerate(words) if word not in tokens[2:]]


def problem_of_lines(lines):
    """The pair of a problem and its naming that lines, each the list of its tokens, tell."""
    words = lines[1][1:]
    ring = lines[0] == ["ring"]
    pairs = {}
    for line in lines[2 if ring else 4:]:
        middle = line.index("->")
        for one in _labels_told(words, line[:middle]):
            for other in _labels_told(words, line[middle + 1:]):
                pairs[(one, other)] = True
    if ring:
        return (RingProblem(len(words), list(pairs)), tuple(words))
    starts, ends = [[words.index(word) for word in line[1:]] for line in lines[2:4]]
    return (PathProblem(len(words), list(pairs), starts, ends), tuple(words))


def problem_of_text(text):
    """The pair of the problem that a text tells and its naming."""
    check_whole(problem_turn, text)
    return problem_of_lines([tokens_of(line) for line in text.split("\n")])
