"""Deeds and drafts as texts."""

from roundwright.drafts import check_draft, is_draft
from roundwright.errors import BadDeed, BadPhrase
from roundwright.problems import check_problem
from roundwright.sessions import is_deed

# No number in these texts has more digits: 10 ** 9 is the greatest one.
_MOST_DIGITS = 10


def number_told(word):
    """The number that a word tells in digits without needless zeros, None if it tells none."""
    if not word.isascii() or not word.isdigit() or len(word) > _MOST_DIGITS:
        return None
    return None if word[0] == "0" and len(word) > 1 else int(word)


def deed_text(problem, deed):
    """The text of a deed."""
    check_problem(problem)
    if not is_deed(problem, deed):
        raise BadDeed("not a deed of the problem")
    return " ".join([deed[0]] + [str(number) for number in deed[1:]])


def deed_of_text(problem, text):
    """The deed of which this is the text."""
    check_problem(problem)
    if not isinstance(text, str):
        raise BadPhrase("not a string")
    words = text.split(" ")
    deed = tuple(words[:1] + [number_told(word) for word in words[1:]])
    if not is_deed(problem, deed):
        raise BadPhrase("not the text of a deed of the problem")
    return deed


def draft_text(problem, draft):
    """The text of a draft."""
    check_problem(problem)
    check_draft(problem, draft)
    return " ".join(["-" if label is None else str(label) for label in draft])


def draft_of_text(problem, text):
    """The draft of which this is the text."""
    check_problem(problem)
    if not isinstance(text, str):
        raise BadPhrase("not a string")
    words = text.split(" ")
    told = [None if word == "-" else number_told(word) for word in words]
    if [word == "-" for word in words] != [label is None for label in told] or not is_draft(problem, tuple(told)):
        raise BadPhrase("not the text of a draft for the problem")
    return tuple(told)
