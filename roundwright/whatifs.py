"""What if: sessions without one of their deeds, or with two deeds in the other sequence."""

from roundwright.basics import is_number, is_within
from roundwright.errors import BadNumber, CannotCome, NotNow
from roundwright.sessions import Session, check_session, outcome_of


def without(session, number):
    """The session in which one of the present deeds is not done."""
    check_session(session)
    deeds = session.deeds()
    if not is_within(number, 0, len(deeds) - 1):
        raise BadNumber("number")
    found = Session(session.problem, session.net)
    for other, deed in enumerate(deeds):
        if other != number:
            try:
                found.do(deed)
            except NotNow:
                raise CannotCome(other) from None
    return found


def _can_be_left_out(session, deeds, line, number):
    houses = line[number]
    for other in range(number + 1, len(deeds)):
        # As soon as all is as it was, the rest can be done as it was.
        if houses == line[other]:
            return True
        try:
            houses = outcome_of(session.problem, houses, deeds[other])[1]
        except NotNow:
            return False
    return True


def loose(session):
    """The ascending list of the numbers of the deeds without which all others can be done."""
    check_session(session)
    deeds = session.deeds()
    line = session.line()
    return [number for number in range(len(deeds)) if _can_be_left_out(session, deeds, line, number)]


def _are_exchangeable(session, deeds, line, number):
    try:
        houses = outcome_of(session.problem, line[number], deeds[number + 1])[1]
        houses = outcome_of(session.problem, houses, deeds[number])[1]
    except NotNow:
        return False
    return houses == line[number + 2]


def exchangeable(session):
    """The ascending list of the numbers of the deeds that can be exchanged with the next one."""
    check_session(session)
    deeds = session.deeds()
    line = session.line()
    return [number for number in range(len(deeds) - 1) if _are_exchangeable(session, deeds, line, number)]


def _borne(houses, name):
    # A tuple with what a house bears, () if it is not there.
    net, draft = houses
    return (draft[net.index(name)],) if name in net else ()


def last_change(session, name):
    """The number of the last present deed with which a house came or got something else to bear, None without one."""
    check_session(session)
    line = session.line()
    if not is_number(name) or name not in line[-1][0]:
        raise BadNumber("name")
    for number in range(len(line) - 2, -1, -1):
        if _borne(line[number], name) != _borne(line[number + 1], name):
            return number
    return None
