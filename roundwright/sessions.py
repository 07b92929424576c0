"""Sessions: houses that come and leave, get labels, lose them and are mended, with all that was done."""

from roundwright.basics import is_within
from roundwright.drafts import is_draft, is_fair
from roundwright.errors import BadDeed, BadHouses, BadNumber, BadSession, NotNow
from roundwright.mends import mending_at
from roundwright.nets import MOST_NAME, check_net, is_net
from roundwright.problems import MOST_HOUSES, check_problem

_DEED_SIZES = {"come": 3, "leave": 2, "label": 3, "bare": 2, "mend": 2}
_MOST_MENDS = 400


def is_deed(problem, thing):
    """Whether a thing is a deed of the problem."""
    check_problem(problem)
    if not isinstance(thing, tuple) or len(thing) < 2 or not isinstance(thing[0], str):
        return False
    if thing[0] not in _DEED_SIZES or len(thing) != _DEED_SIZES[thing[0]] or not is_within(thing[1], 1, MOST_NAME):
        return False
    if thing[0] == "come":
        return is_within(thing[2], 0, MOST_NAME)
    return thing[0] != "label" or is_within(thing[2], 0, problem.labels - 1)


def _are_houses(problem, thing):
    if not isinstance(thing, tuple) or len(thing) != 2 or not is_net(thing[0]) or not is_draft(problem, thing[1]):
        return False
    return len(thing[0]) == len(thing[1]) and is_fair(problem, thing[1])


def _come(houses, name, behind):
    net, draft = houses
    if name in net or len(net) >= MOST_HOUSES or (behind != 0 and behind not in net):
        return None
    place = net.index(behind) + 1 if behind != 0 else 0
    return net[:place] + (name,) + net[place:], draft[:place] + (None,) + draft[place:]


def _leave(houses, name):
    net, draft = houses
    if name not in net or len(net) == 1:
        return None
    place = net.index(name)
    return net[:place] + net[place + 1:], draft[:place] + draft[place + 1:]


def _label(houses, name, label):
    net, draft = houses
    if name not in net:
        return None
    place = net.index(name)
    return net, draft[:place] + (label,) + draft[place + 1:]


def _bare(houses, name):
    net, draft = houses
    if name not in net or draft[net.index(name)] is None:
        return None
    return _label(houses, name, None)


def _mend(problem, houses, name):
    # The pair of the reach and the houses behind the mending, None if it cannot be done.
    net, draft = houses
    if name not in net or draft[net.index(name)] is not None:
        return None
    found = mending_at(problem, draft, net.index(name))
    return None if found is None else (found[0], (net, found[1]))


def _changed(houses, deed):
    # The houses behind a deed that mends nothing, fair or not; None if it cannot be done.
    if deed[0] == "come":
        return _come(houses, deed[1], deed[2])
    if deed[0] == "leave":
        return _leave(houses, deed[1])
    if deed[0] == "label":
        return _label(houses, deed[1], deed[2])
    return _bare(houses, deed[1])


def outcome_of(problem, houses, deed):
    """The pair of the reach (None but for a mending) and the houses behind a deed; NotNow if it cannot be done."""
    if deed[0] == "mend":
        found = _mend(problem, houses, deed[1])
    else:
        changed = _changed(houses, deed)
        found = None if changed is None or not is_fair(problem, changed[1]) else (None, changed)
    if found is None:
        raise NotNow("this deed cannot be done now")
    return found


def deed_done(problem, houses, deed):
    """The houses behind a deed."""
    check_problem(problem)
    if not _are_houses(problem, houses):
        raise BadHouses("not houses for the problem")
    if not is_deed(problem, deed):
        raise BadDeed("not a deed of the problem")
    return outcome_of(problem, houses, deed)[1]


class Session:
    """Houses of a problem with the deeds that were done, and those that were undone."""

    def __init__(self, problem, net):
        check_problem(problem)
        check_net(net)
        self.problem = problem
        self.net = net
        self._done = []
        self._undone = []
        self._line = [(net, (None,) * len(net))]
        self._reached = []

    def __eq__(self, other):
        if not isinstance(other, Session) or self.problem != other.problem or self.net != other.net:
            return False
        return self._done == other._done and self._undone == other._undone

    def _put(self, deed):
        reach, houses = outcome_of(self.problem, self._line[-1], deed)
        self._done.append(deed)
        self._line.append(houses)
        self._reached.append(reach)

    def do(self, deed):
        """Do a deed; none is undone then."""
        if not is_deed(self.problem, deed):
            raise BadDeed("not a deed of the problem")
        self._put(deed)
        self._undone = []

    def undo(self):
        """Take the last present deed back."""
        if not self._done:
            raise NotNow("no deed is present")
        self._undone.append(self._done.pop())
        self._line.pop()
        self._reached.pop()

    def redo(self):
        """Do the first undone deed again."""
        if not self._undone:
            raise NotNow("no deed is undone")
        self._put(self._undone[-1])
        self._undone.pop()

    def go(self, most):
        """Mend the first house without a label, again and again, at most so often; how often it was done."""
        if not is_within(most, 0, _MOST_MENDS):
            raise BadNumber("most")
        many = 0
        while many < most:
            net, draft = self._line[-1]
            if None not in draft:
                return many
            try:
                self.do(("mend", net[draft.index(None)]))
            except NotNow:
                return many
            many += 1
        return many

    def houses(self):
        """The present houses: the pair of their names and of what they bear."""
        return self._line[-1]

    def deeds(self):
        """The list of the present deeds, in their sequence."""
        return list(self._done)

    def undone(self):
        """The list of the deeds that redo would do, the next one first."""
        return self._undone[::-1]

    def line(self):
        """The list of the houses at first and behind each present deed."""
        return list(self._line)

    def reaches(self):
        """The list of the reaches of the present deeds that mended, in their sequence."""
        return [reach for reach in self._reached if reach is not None]


def check_session(session):
    """BadSession unless a Session."""
    if not isinstance(session, Session):
        raise BadSession("not a Session")
