"""Letters whose numbers are told modulo some number alone: what comes of it, and how short they may be."""

from roundwright.basics import is_listed, is_within
from roundwright.errors import BadDeeds, BadNumber
from roundwright.neighbours import LEFT, RIGHT, check_kind, is_place_deed, neighbour
from roundwright.nets import check_net
from roundwright.steppers import Stepper, check_stepper
from roundwright.works import first_state, next_state

_MOST_MODULUS = 24
_MOST_LATE = 20
_MOST_DEEDS = 400


class ShortPost:
    """Houses of a Stepper with all states that they had, and what they take their neighbours' states for."""

    def __init__(self, stepper, kind, net, modulus):
        self.stepper = stepper
        self.kind = kind
        self.size = len(net)
        self.modulus = modulus
        self.past = [[first_state(stepper, name)] for name in net]
        self.taken = [[{}, {}] for _ in net]
        self.late = 0

    def house_beside(self, place, side):
        """The place of the house at a side of a house, None if nobody stands there."""
        return neighbour(self.kind, self.size, place, side)

    def can_come(self, deed):
        """Whether a deed of these houses can come."""
        if deed[0] == "hand":
            return deed[3] < len(self.past[self.house_beside(deed[1], deed[2])])
        done = len(self.past[deed[1]]) - 1
        sides = [side for side in (LEFT, RIGHT) if self.house_beside(deed[1], side) is not None]
        return all([done in self.taken[deed[1]][side] for side in sides])

    def hand(self, place, side, number):
        """Hand a letter to a house, which takes it for one of the rounds it can use."""
        done = len(self.past[place]) - 1
        self.late = max(self.late, done - number)
        taken = self.taken[place][side]
        for meant in (done, done + 1):
            if meant not in taken and (number - meant) % self.modulus == 0:
                taken[meant] = self.past[self.house_beside(place, side)][number]
                return

    def go_round(self, place):
        """Let a house do a round."""
        done = len(self.past[place]) - 1
        left, right = [taken.get(done, None) for taken in self.taken[place]]
        self.past[place].append(next_state(self.stepper, left, self.past[place][-1], right))

    def do(self, deed):
        """Do a deed that can come."""
        if deed[0] == "round":
            self.go_round(deed[1])
        else:
            self.hand(deed[1], deed[2], deed[3])


def short_run(stepper, kind, net, modulus, deeds):
    """The triple of the front, the states and the greatest lateness behind deeds, with numbers told modulo one."""
    check_stepper(stepper)
    check_kind(kind)
    check_net(net)
    if not is_within(modulus, 1, _MOST_MODULUS):
        raise BadNumber("modulus")
    if not is_listed(deeds) or len(deeds) > _MOST_DEEDS:
        raise BadDeeds(None)
    post = ShortPost(stepper, kind, net, modulus)
    for number, deed in enumerate(deeds):
        if not is_place_deed(kind, len(net), deed) or not post.can_come(deed):
            raise BadDeeds(number)
        post.do(deed)
    front = tuple([len(past) - 1 for past in post.past])
    return (front, tuple([past[-1] for past in post.past]), post.late)


def _counting(states):
    # The last house of a path counts its rounds, the others take over what stands to their right.
    sides = list(range(states + 1))
    steps = {}
    for left in sides:
        for own in range(states):
            for right in sides:
                steps[(left, own, right)] = right if right < states else (own + 1) % states
    return Stepper(states, [0], steps)


def wrong_run(modulus, late):
    """A Stepper, a kind, a net and deeds with a state that is not that in rounds; None if none are late enough."""
    if not is_within(modulus, 1, _MOST_MODULUS):
        raise BadNumber("modulus")
    if not is_within(late, 0, _MOST_LATE):
        raise BadNumber("late")
    if modulus >= late + 2:
        return None
    states = [number for number in range(2, 6) if modulus % number != 0][0]
    deeds = []
    for number in range(modulus):
        both = [("hand", 0, RIGHT, number), ("hand", 1, LEFT, number)]
        deeds.extend(both + [("round", 1), ("round", 0)])
    # Ahead of its last round the first house hears the oldest letter again and takes it for that of the round to come.
    deeds = deeds[:-1] + [("hand", 0, RIGHT, 0), ("round", 0), ("round", 0)]
    if modulus == 1:
        deeds = [("hand", 1, LEFT, 0), ("round", 1), ("hand", 0, RIGHT, 1), ("round", 0)]
    return (_counting(states), "path", (2, 4), deeds)
