"""Houses with disks: they do rounds by what their neighbours tell, fall at any byte, and go on with what is kept."""

from roundwright.basics import is_number, is_pair, is_within
from roundwright.errors import BadHouse, BadLog, BadNumber, NotNow, TooMany
from roundwright.houselogs import MOST_LOGGED, SLOT, check_bytes, check_name, read_log, slot_of
from roundwright.neighbours import LEFT, RIGHT
from roundwright.steppers import begin_state


class DiskHouse:
    """A house of a Stepper, with the states that it keeps and the bytes of its disk, sure ones and late ones."""

    def __init__(self, stepper, name, sides, thing):
        check_name(stepper, name)
        if not is_pair(sides) or not all([isinstance(truth, bool) for truth in sides]):
            raise BadNumber("sides")
        check_bytes(thing)
        first, states, good, why = read_log(stepper, name, thing)
        if why == "strange":
            raise BadLog(good)
        sure = tuple(thing)[:good]
        if not states:
            states = (begin_state(stepper, name),)
            sure = slot_of(0, states[0])
        self.stepper = stepper
        self.name = name
        self.sides = sides
        self.first = first
        self.states = states
        self.rounds = first + len(states) - 1
        self.sure = sure
        self.late = ()
        self._heard = [{}, {}]

    def take(self, side, number, state):
        """Take the state that the neighbour at a side had after so many rounds; whether it is new."""
        if not is_number(side) or side not in (LEFT, RIGHT) or not self.sides[side]:
            raise BadNumber("side")
        if not is_within(number, 0, MOST_LOGGED):
            raise BadNumber("number")
        if not is_within(state, 0, self.stepper.states - 1):
            raise BadNumber("state")
        if number not in (self.rounds, self.rounds + 1) or number in self._heard[side]:
            return False
        self._heard[side][number] = state
        return True

    def go(self):
        """Do a round; its slot stands late on the disk."""
        around = []
        for side in (LEFT, RIGHT):
            if not self.sides[side]:
                around.append(self.stepper.states)
            elif self.rounds in self._heard[side]:
                around.append(self._heard[side][self.rounds])
            else:
                raise NotNow("a neighbour's state after as many rounds is not known")
        if self.rounds == MOST_LOGGED:
            raise TooMany(MOST_LOGGED)
        state = self.stepper.steps[(around[LEFT], self.states[-1], around[RIGHT])]
        self.late = self.late + slot_of(self.rounds + 1, state)
        self.states = self.states + (state,)
        self.rounds = self.rounds + 1

    def sync(self):
        """Make sure what is late."""
        self.sure = self.sure + self.late
        self.late = ()

    def told(self, number):
        """The state after so many rounds, if it is kept and its slot is sure; otherwise None."""
        if not is_within(number, 0, MOST_LOGGED):
            raise BadNumber("number")
        place = number - self.first
        return self.states[place] if 0 <= place < len(self.sure) // SLOT else None

    def trim(self, number):
        """Keep no slots and states below a number any longer."""
        if self.told(number) is None:
            raise NotNow("this number is not told")
        many = number - self.first
        self.sure = self.sure[SLOT * many:]
        self.states = self.states[many:]
        self.first = number


def fallen_house(house, kept):
    """The bytes that are found on the disk of a house that falls: the sure ones, and so many of the late ones."""
    if not isinstance(house, DiskHouse):
        raise BadHouse("not a house with a disk")
    if not is_within(kept, 0, len(house.late)):
        raise BadNumber("kept")
    return house.sure + house.late[:kept]
