"""Journals: the texts of what was done in a session, and sessions taken up from them."""

from roundwright.basics import is_listed
from roundwright.deedtexts import deed_of_text, deed_text
from roundwright.errors import BadJournal, BadPhrase, NotNow
from roundwright.sessions import Session, check_session


def journal(session):
    """The list of the texts of the present deeds of a session."""
    check_session(session)
    return [deed_text(session.problem, deed) for deed in session.deeds()]


def taken_up(problem, net, lines):
    """The session of these houses that has done the deeds of these lines."""
    session = Session(problem, net)
    if not is_listed(lines):
        raise BadJournal(None)
    for number, text in enumerate(lines):
        try:
            session.do(deed_of_text(problem, text))
        except (BadPhrase, NotNow):
            raise BadJournal(number) from None
    return session
