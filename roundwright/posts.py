"""Posts: houses that do rounds by letters, which come in any order, more than once, or late."""

from roundwright.basics import is_listed, is_number
from roundwright.errors import BadDeed, BadNumber, NotNow
from roundwright.neighbours import LEFT, RIGHT, is_place_deed, neighbour
from roundwright.works import check_work, first_state, last_answer, next_state, own_rounds

_MOST_CHOICES = 400


def _place_in(line, thing):
    # Where a thing stands, or is to stand, in an ascending list.
    low = 0
    high = len(line)
    while low < high:
        middle = (low + high) // 2
        if line[middle] < thing:
            low = middle + 1
        else:
            high = middle
    return low


def _changed(line, place, thing):
    return line[:place] + (thing,) + line[place + 1:]


class Post:
    """Houses of a work that are to do so many rounds each, by letters.

    The attributes front, states and known tell how far each house is, its state, and the numbers of rounds of which it
    knows its neighbours' states.
    """

    def __init__(self, work, kind, net, rounds):
        check_work(work, kind, net, rounds)
        if own_rounds(work) not in (None, rounds):
            raise BadNumber("rounds")
        self.work = work
        self.kind = kind
        self.net = net
        self.rounds = rounds
        size = len(net)
        self._beside = [[neighbour(kind, size, place, side) for side in (LEFT, RIGHT)] for place in range(size)]
        self._before = [None] * size
        self._heard = [[{}, {}] for _ in range(size)]
        self.front = (0,) * size
        self.states = tuple([first_state(work, name) for name in net])
        self.known = (((), ()),) * size
        # What is useful, for each house and in all.
        self._offers = [self._useful_at(place) for place in range(size)]
        self._line = sorted([deed for offers in self._offers for deed in offers])

    def _useful_at(self, place):
        # The useful deeds of a house.
        done = self.front[place]
        found = []
        if done == self.rounds:
            return found
        ready = True
        for side in (LEFT, RIGHT):
            at = self._beside[place][side]
            heard = self._heard[place][side]
            for number in (done, done + 1):
                if at is not None and number not in heard and self.front[at] >= number:
                    found.append(("hand", place, side, number))
            ready = ready and (at is None or done in heard)
        if ready:
            found.append(("round", place))
        return found

    def _offer_anew(self, place):
        # Work out anew what is useful at a house.
        for deed in self._offers[place]:
            del self._line[_place_in(self._line, deed)]
        self._offers[place] = self._useful_at(place)
        for deed in self._offers[place]:
            self._line.insert(_place_in(self._line, deed), deed)

    def _tell_known(self, place):
        numbers = [tuple(sorted(list(heard))) for heard in self._heard[place]]
        self.known = _changed(self.known, place, tuple(numbers))

    def _check_deed(self, deed):
        if not is_place_deed(self.kind, len(self.net), deed):
            raise BadDeed("not a deed of these houses")

    def _can_come(self, deed):
        if deed[0] == "hand":
            return self.front[self._beside[deed[1]][deed[2]]] >= deed[3]
        return deed in self._offers[deed[1]]

    def can_come(self, deed):
        """Whether a deed can come now."""
        self._check_deed(deed)
        return self._can_come(deed)

    def _hand(self, place, side, number):
        at = self._beside[place][side]
        state = self.states[at] if self.front[at] == number else self._before[at]
        self._heard[place][side][number] = state
        self._tell_known(place)
        self._offer_anew(place)

    def _round(self, place):
        done = self.front[place]
        left, right = [heard.get(done, None) for heard in self._heard[place]]
        own = self.states[place]
        self._before[place] = own
        self.states = _changed(self.states, place, next_state(self.work, left, own, right))
        self.front = _changed(self.front, place, done + 1)
        for heard in self._heard[place]:
            heard.pop(done, None)
        self._tell_known(place)
        for at in {one: True for one in [place] + self._beside[place] if one is not None}:
            self._offer_anew(at)

    def do(self, deed):
        """Do a deed; whether it changes anything."""
        self._check_deed(deed)
        if not self._can_come(deed):
            raise NotNow("this deed cannot come now")
        if deed[0] == "round":
            self._round(deed[1])
            return True
        if deed not in self._offers[deed[1]]:
            return False
        self._hand(deed[1], deed[2], deed[3])
        return True

    def useful(self):
        """The ascending tuple of all rounds and new hands that can come."""
        return tuple(self._line)

    def labels(self):
        """What each house answers, None for those that have not done all rounds."""
        return tuple([
            last_answer(self.work, state) if done == self.rounds else None
            for done, state in zip(self.front, self.states)])

    def ended(self, choices):
        """Do useful deeds, told by choices, until there are none; the labels."""
        if not is_listed(choices) or not 1 <= len(choices) <= _MOST_CHOICES:
            raise BadNumber("choices")
        if not all([is_number(choice) and choice >= 0 for choice in choices]):
            raise BadNumber("choices")
        step = 0
        while self._line:
            self.do(self._line[choices[step] % len(self._line)])
            step = (step + 1) % len(choices)
        return self.labels()
