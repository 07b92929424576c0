"""Texts read sign by sign: whether they can still become one of a grammar, and the shortest way to end them.

A grammar is a function that tells for each *spot*, a tuple of all that matters of what was told, the turn that is
taken there. A text is read token by token; the part of a token that was read last is kept beside the spot.
"""

LETTERS = "abcdefghijklmnopqrstuvwxyz"
_DIGITS = "0123456789"
_MOST_LETTERS = 12
_MOST_WORDS = 12
_BARRED = ("all", "but", "then")


def is_word(thing):
    """Whether a thing is a string of 1 to 12 letters."""
    return isinstance(thing, str) and 1 <= len(thing) <= _MOST_LETTERS and all([sign in LETTERS for sign in thing])


def is_free_word(thing, words):
    """Whether a thing can be one more word of a naming beside others."""
    return is_word(thing) and thing not in _BARRED and thing not in words


class Turn:
    """What may come at a spot.

    Tokens tell for each token the spot behind it. If figures are told, they are the least and the greatest number
    that may come, and the spot behind it. If naming is true, a new word may come; the words ahead of it are the last
    thing of the spot, and the spot behind it has it among these. The text may end here if ends is true.
    """

    def __init__(self, tokens, figures, naming, ends):
        self.tokens = tokens
        self.figures = figures
        self.naming = naming
        self.ends = ends


def _goes_on(part, sign):
    # Whether a sign belongs to the same token as the part of it ahead.
    if part == "-":
        return sign == ">"
    return (part[0] in LETTERS and sign in LETTERS) or (part[0] in _DIGITS and sign in _DIGITS)


def _can_become(turn, spot, part):
    # Whether a token that may come at the spot begins with a part that is not empty.
    if part[0] in _DIGITS:
        return turn.figures is not None and _is_figure(part, turn.figures)
    if turn.naming and part[0] in LETTERS:
        words = spot[-1]
        if len(words) == _MOST_WORDS or len(part) > _MOST_LETTERS:
            return False
        # So many words cannot take all that begin with a part that can be made longer.
        return len(part) < _MOST_LETTERS or is_free_word(part, words)
    return any([token.startswith(part) for token in turn.tokens])


def _is_figure(part, figures):
    if part[0] == "0" and len(part) > 1:
        return False
    return figures[0] <= int(part) <= figures[1]


def _behind(turn, spot, part):
    # The spot behind a token, None if this part is no whole token.
    if part in turn.tokens:
        return turn.tokens[part]
    if part[0] in _DIGITS and turn.figures is not None:
        return turn.figures[2]
    if turn.naming and is_free_word(part, spot[-1]):
        return spot[:-1] + (spot[-1] + (part,),)
    return None


def read(grammar, first, text):
    """How many signs of a text are a beginning of one, and the spot and the part read behind these."""
    spot = first
    turn = grammar(spot)
    part = ""
    for at, sign in enumerate(text):
        if part and _goes_on(part, sign):
            if not _can_become(turn, spot, part + sign):
                return at, spot, part
            part = part + sign
            continue
        if part:
            behind = _behind(turn, spot, part)
            if behind is None:
                return at, spot, part
            spot = behind
            turn = grammar(spot)
            part = ""
        if sign == "\n" and sign in turn.tokens:
            spot = turn.tokens[sign]
            turn = grammar(spot)
        elif sign in "\n>" or (sign != " " and not _can_become(turn, spot, sign)):
            return at, spot, part
        elif sign != " ":
            part = sign
    return len(text), spot, part


def ends_here(grammar, spot, part):
    """Whether what was read is a whole text."""
    if part:
        spot = _behind(grammar(spot), spot, part)
    return spot is not None and grammar(spot).ends


def _first_signs(grammar, spot, part):
    # What may come behind a whole token (part is its last one), so far as it can be of the shortest way to the end:
    # a dict from signs to the spot and the part that each leads to.
    turn = grammar(spot)
    found = {}
    # Where a list can end, one more thing in it is no shorter way.
    closing = [token for token in turn.tokens if token in ("\n", "->")]
    starts = [token[0] for token in closing or list(turn.tokens)]
    if turn.figures is not None:
        starts = [str(turn.figures[0])]
    if turn.naming and not closing:
        starts = ["a"]
    for sign in starts:
        if sign == "\n":
            found[sign] = (turn.tokens[sign], "")
        elif part and _goes_on(part, sign):
            found[" "] = (spot, "")
        else:
            found[sign] = (spot, sign)
    return found


def _longer(turn, spot, part):
    # The signs that make a part longer, so far as they can be of the shortest way.
    if turn.naming and part[0] in LETTERS:
        if is_free_word(part, spot[-1]):
            return []
        return [[sign for sign in LETTERS if is_free_word(part + sign, spot[-1])][0]]
    return [token[len(part)] for token in turn.tokens if token.startswith(part) and token != part]


def _ways_on(grammar, spot, part):
    # A dict from signs to the spots and parts that they lead to, of all that can be of the shortest way to the end.
    if not part:
        return _first_signs(grammar, spot, part)
    turn = grammar(spot)
    behind = _behind(turn, spot, part)
    found = {} if behind is None else _first_signs(grammar, behind, part)
    for sign in _longer(turn, spot, part):
        found[sign] = (spot, part + sign)
    return found


def shortest_tail(grammar, spot, part):
    """The shortest string that ends what was read, the least of several."""
    seen = {(spot, part): True}
    layer = [(spot, part, "")]
    while True:
        further = []
        for one, read_part, tail in layer:
            if ends_here(grammar, one, read_part):
                return tail
        for one, read_part, tail in layer:
            ways = _ways_on(grammar, one, read_part)
            for sign in sorted(list(ways)):
                if ways[sign] not in seen:
                    seen[ways[sign]] = True
                    further.append((ways[sign][0], ways[sign][1], tail + sign))
        layer = further


def tokens_of(line):
    """The tokens of a line of a whole text."""
    found = []
    inside = False
    for sign in line:
        if sign == " ":
            inside = False
        elif inside and _goes_on(found[-1], sign):
            found[-1] = found[-1] + sign
        else:
            found.append(sign)
            inside = True
    return found
