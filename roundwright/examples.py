"""Two problems as texts, each with the text of a program made for it."""

_COLOURS = """ring
labels red green blue
red -> green blue
green -> red blue
blue -> red green"""

_COLOURS_PROGRAM = """
then
whole within 12
names
bits within 1
bits within 1
bits within 1
bits within 1
drop 5 within 1
drop 4 within 1
drop 3 within 1
stay within 1
fill red within 3"""

_CHESS = """path
labels black white
starts black white
ends black white
black -> white
white -> black"""

_CHESS_PROGRAM = """
then
whole within 400"""


def examples():
    """The list of two pairs: the text of a problem, and that of a program for it, which begins with it."""
    return [(_COLOURS, _COLOURS + _COLOURS_PROGRAM), (_CHESS, _CHESS + _CHESS_PROGRAM)]
