"""Nets as texts: names in figures with blanks between."""

from roundwright.errors import BadText
from roundwright.nets import MOST_NAME, check_net
from roundwright.problems import MOST_HOUSES

_DIGITS = "0123456789"


def net_text(net):
    """The names of a net in figures, with one blank between."""
    check_net(net)
    return " ".join([str(name) for name in net])


def _longer_by(part, steps):
    # The range of the names that figures tell which begin with a part and have so many more, as a pair.
    first = int(part)
    many = 1
    for _ in range(steps):
        first = first * 10
        many = many * 10
    return first, min(first + many - 1, MOST_NAME)


def _is_name(part, names):
    return part[0] != "0" and int(part) <= MOST_NAME and int(part) not in names


def _least_name(part, names):
    # The figures of the shortest name that begins with a part and is none of the names, the least of several; None.
    if part[0] == "0":
        return None
    for steps in range(len(str(MOST_NAME)) - len(part) + 1):
        low, high = _longer_by(part, steps)
        # No more than one of the names stands in the way of each number.
        for number in range(low, min(high, low + len(names)) + 1):
            if number not in names:
                return str(number)
    return None


def _read(text):
    # How many signs of a text are a beginning of one, the names told ahead of the last token, and the part of it.
    names = {}
    part = ""
    for at, sign in enumerate(text):
        if sign == " ":
            if part and not _is_name(part, names):
                return at, names, part
            if part:
                names[int(part)] = True
            part = ""
        elif sign not in _DIGITS or len(names) == MOST_HOUSES:
            return at, names, part
        elif not _is_name(part + sign, names) and _least_name(part + sign, names) is None:
            return at, names, part
        else:
            part = part + sign
    return len(text), names, part


def _check_text(text):
    if not isinstance(text, str):
        raise BadText(None)


def tail_of_net_text(text):
    """The shortest string that makes a text of a net of this one, the least of several; None if none does."""
    _check_text(text)
    at, names, part = _read(text)
    if at < len(text):
        return None
    if not part:
        return "" if names else "1"
    return _least_name(part, names)[len(part):]


def net_of_text(text):
    """The net that a text tells."""
    _check_text(text)
    at, names, part = _read(text)
    if at < len(text) or (not part and not names) or (part and not _is_name(part, names)):
        raise BadText(at)
    return tuple([int(word) for word in text.split(" ") if word])
