"""Desks: sessions that are led by lines of text."""

from roundwright.basics import is_within
from roundwright.deedtexts import deed_of_text, draft_text, number_told
from roundwright.drafts import fills, free_labels
from roundwright.errors import BadPhrase, NotNow
from roundwright.journals import journal
from roundwright.mends import reach_at
from roundwright.sessions import Session
from roundwright.whatifs import loose

_WHAT = ("what",)
_CANNOT = ("cannot",)
_MOST_MENDS = 400


class Desk:
    """A session that does what lines say, and answers with lines."""

    def __init__(self, problem, net):
        self.session = Session(problem, net)

    def _draft_line(self):
        return "draft " + draft_text(self.session.problem, self.session.houses()[1])

    def _change(self, deed, word):
        # Do a deed, or undo or redo one.
        try:
            if word == "undo":
                self.session.undo()
            elif word == "redo":
                self.session.redo()
            else:
                self.session.do(deed)
        except NotNow:
            return _CANNOT
        return (self._draft_line(),)

    def _tell(self, word):
        # What a word alone asks for, None for a word that is not known.
        net, draft = self.session.houses()
        if word == "draft":
            return (self._draft_line(),)
        if word == "names":
            return ("names " + " ".join([str(name) for name in net]),)
        if word == "journal":
            return tuple(journal(self.session))
        if word == "fills":
            return (f"fills {fills(self.session.problem, draft)}",)
        if word == "loose":
            return tuple([str(number) for number in loose(self.session)])
        return None

    def _tell_of(self, word, number):
        # What a word and a number ask for, None if they are not known.
        problem = self.session.problem
        net, draft = self.session.houses()
        if word == "go" and is_within(number, 0, _MOST_MENDS):
            return (f"came {self.session.go(number)}", self._draft_line())
        if number not in net:
            return None
        place = net.index(number)
        if word == "free":
            return tuple([str(label) for label in free_labels(problem, draft, place)])
        if word == "reach" and draft[place] is None:
            reach = reach_at(problem, draft, place)
            return ("reach none",) if reach is None else (f"reach {reach}",)
        return None

    def _answer(self, line):
        if line in ("undo", "redo"):
            return self._change(None, line)
        try:
            deed = deed_of_text(self.session.problem, line)
        except BadPhrase:
            words = line.split(" ")
            if len(words) == 1:
                return self._tell(line)
            number = number_told(words[1]) if len(words) == 2 else None
            return None if number is None else self._tell_of(words[0], number)
        return self._change(deed, "do")

    def say(self, line):
        """The tuple of the lines that answer a line."""
        found = self._answer(line) if isinstance(line, str) else None
        if found is None:
            return _WHAT
        return ("nothing",) if found == () else found
