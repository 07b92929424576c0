"""Logs: what a house has done, as bytes that can be cut anywhere."""

from roundwright.basics import are_within, is_listed, is_within
from roundwright.errors import BadBytes, BadLog, BadNumber
from roundwright.nets import MOST_NAME
from roundwright.steppers import begin_state, check_stepper

MOST_LOGGED = 400
SLOT = 4
_MOST_BYTE = 255
_BYTES = 256
_MARK = 165


def slot_of(number, state):
    """The four bytes of a number and a state."""
    low = number % _BYTES
    high = number // _BYTES
    return (low, high, state, low ^ high ^ state ^ _MARK)


def check_name(stepper, name):
    """BadWork(None) unless a Stepper, BadNumber("name") unless a name."""
    check_stepper(stepper)
    if not is_within(name, 1, MOST_NAME):
        raise BadNumber("name")


def _is_kept(stepper, name, number, state):
    # Whether a log of the house may have a slot of this number and state.
    return number > 0 or state == begin_state(stepper, name)


def log_of(stepper, name, first, states):
    """The bytes of the log of a house from a first number on."""
    check_name(stepper, name)
    if not is_within(first, 0, MOST_LOGGED):
        raise BadNumber("first")
    if not is_listed(states) or not 1 <= len(states) <= MOST_LOGGED + 1 - first:
        raise BadLog(None)
    if not are_within(states, 0, stepper.states - 1) or not _is_kept(stepper, name, first, states[0]):
        raise BadLog(None)
    found = ()
    for step, state in enumerate(states):
        found = found + slot_of(first + step, state)
    return found


def check_bytes(thing):
    """BadBytes unless a list of bytes."""
    if not is_listed(thing) or not are_within(thing, 0, _MOST_BYTE):
        raise BadBytes("not a list of numbers from 0 to 255")


def _goes_on(stepper, name, slot, number):
    # Whether bytes are a slot that a log may have for this number.
    if number > MOST_LOGGED or len(slot) != SLOT or slot[2] >= stepper.states:
        return False
    return slot == slot_of(number, slot[2]) and _is_kept(stepper, name, number, slot[2])


def _is_torn(stepper, name, rest, numbers):
    # Whether bytes are a proper beginning of a slot that a log may have for one of these numbers.
    for number in numbers:
        for state in range(stepper.states):
            if rest == slot_of(number, state)[:len(rest)] and _goes_on(stepper, name, slot_of(number, state), number):
                return len(rest) < SLOT
    return False


def read_log(stepper, name, thing):
    """The first number, the states and the length of the longest beginning that is a log, and what stands behind it."""
    check_name(stepper, name)
    check_bytes(thing)
    told = tuple(thing)
    first = told[0] + _BYTES * told[1] if len(told) >= SLOT else 0
    states = []
    good = 0
    while _goes_on(stepper, name, told[good:good + SLOT], first + len(states)):
        states.append(told[good + 2])
        good += SLOT
    if good == len(told):
        return (first, tuple(states), good, "whole")
    numbers = [first + len(states)]
    if good == 0:
        first = 0
        numbers = list(range(MOST_LOGGED + 1))
    why = "torn" if _is_torn(stepper, name, told[good:], numbers) else "strange"
    return (first, tuple(states), good, why)
