"""Promise 94: deeds, houses and sessions."""

import copy
import random
import unittest

from roundwright.drafts import is_fair
from roundwright.errors import BadDeed, BadHouses, BadNet, BadNumber, BadProblem, NotNow
from roundwright.mends import reach_at
from roundwright.nets import is_net
from roundwright.problems import PathProblem, RingProblem, is_right
from roundwright.sessions import Session, deed_done, is_deed
from tests import brute
from tests.brute import STRANGE, raised

DEEDS = (("come", 12, 0), ("come", 1, 10 ** 9), ("leave", 3), ("label", 3, 1), ("bare", 3), ("mend", 10 ** 9))


def slow_done(problem, houses, deed):
    """The houses behind a deed, straight from the document; None if it cannot be done."""
    rows = list(zip(*houses))
    places = {name: at for at, (name, _) in enumerate(rows)}
    word, name = deed[:2]
    if word == "come":
        if name in places or len(rows) >= 400 or (deed[2] != 0 and deed[2] not in places):
            return None
        rows.insert(places[deed[2]] + 1 if deed[2] else 0, (name, None))
    elif name not in places:
        return None
    else:
        at = places[name]
        label = rows[at][1]
        if word == "leave":
            if len(rows) == 1:
                return None
            del rows[at]
        elif word == "label":
            rows[at] = (name, deed[2])
        elif word == "bare":
            if label is None:
                return None
            rows[at] = (name, None)
        else:
            line = brute.slow_mended(problem, houses[1], at) if label is None else None
            if line is None:
                return None
            rows = list(zip(houses[0], line))
    net, draft = tuple(row[0] for row in rows), tuple(row[1] for row in rows)
    return (net, draft) if brute.slow_fair(problem, draft) else None


def random_deed(rng, problem, names):
    word = rng.choice(("come", "leave", "label", "label", "bare", "mend", "mend"))
    name = rng.choice(names)
    if word == "come":
        return (word, name, rng.choice([0] + names))
    return (word, name, rng.randrange(problem.labels)) if word == "label" else (word, name)


def shown(session):
    return (session.problem, session.net, session.houses(), session.deeds(), session.undone(), session.line(),
            session.reaches())


class TestDeeds(unittest.TestCase):
    def test_any_value_is_judged(self):
        for deed in DEEDS:
            self.assertIs(is_deed(brute.CHESS, deed), True, deed)
        wrong = (
            (), ("come",), ("come", 1), ("come", 1, 2, 3), ("come", 0, 0), ("come", 10 ** 9 + 1, 0), ("come", 1, -1),
            ("come", 1, 10 ** 9 + 1), ("come", True, 0), ("come", 1, False), ("come", 1.0, 0), ["come", 1, 0],
            ("leave",), ("leave", 0), ("leave", 1, 1), ("leave", "1"), ("leave", True), ("label", 1),
            ("label", 1, 2), ("label", 1, -1), ("label", 1, True), ("label", 1, None), ("label", 0, 0),
            ("bare", 1, 1), ("bare", None), ("mend", 1, 0), ("mend", 0), ("Mend", 1), ("undo", 1), ("", 1),
            (None, 1), ([], 1), (brute.Odd(), 1), ("mend", brute.Odd()), "mend 1")
        for thing in STRANGE + wrong:
            self.assertIs(is_deed(brute.CHESS, thing), False, repr(thing)[:60])
            raised(BadDeed, deed_done, brute.CHESS, ((1,), (None,)), thing)

    def test_houses_are_judged(self):
        houses = ((1, 2), (0, None))
        self.assertEqual(deed_done(brute.CHESS, houses, ("mend", 2)), ((1, 2), (0, 1)))
        wrong = (
            (), ((1, 2),), [(1, 2), (0, None)], ((1, 2), [0, None]), ([1, 2], (0, None)), ((1, 2), (0,)),
            ((1, 2), (None,)), ((1,), (None, 0)), ((1, 1), (0, None)), ((1, 2), (0, 0)), ((1, 2), (0, 2)),
            ((), ()), ((1,), (0,)), ((0,), (None,)),
            (None, None), ((1, 2), None), ((1, 2), (0, None), ()))
        for thing in STRANGE + wrong:
            raised(BadHouses, deed_done, brute.CHESS, thing, None)
        for thing in STRANGE:
            self.assertIsNone(raised(BadProblem, deed_done, thing, None, None).part)
            self.assertIsNone(raised(BadProblem, is_deed, thing, None).part)

    def test_by_hand(self):
        path = PathProblem(2, [(0, 1), (1, 0)], [0], [0, 1])
        houses = ((7, 8, 9), (0, 1, None))
        done = {
            ("come", 5, 0): ((5, 7, 8, 9), (None, 0, 1, None)),
            ("come", 5, 8): ((7, 8, 5, 9), (0, 1, None, None)),
            ("come", 5, 9): ((7, 8, 9, 5), (0, 1, None, None)),
            ("leave", 9): ((7, 8), (0, 1)),
            ("leave", 8): ((7, 9), (0, None)),
            ("label", 9, 0): ((7, 8, 9), (0, 1, 0)),
            ("label", 8, 1): houses,
            ("bare", 7): ((7, 8, 9), (None, 1, None)),
            ("mend", 9): ((7, 8, 9), (0, 1, 0)),
        }
        for deed, expected in done.items():
            self.assertEqual(deed_done(path, houses, deed), expected)
        for deed in (("come", 7, 0), ("come", 5, 6), ("come", 5, 5), ("leave", 5), ("leave", 7), ("label", 5, 0),
                     ("label", 9, 1), ("label", 7, 1), ("bare", 9), ("bare", 5), ("mend", 7), ("mend", 5)):
            raised(NotNow, deed_done, path, houses, deed)
        raised(NotNow, deed_done, path, ((7,), (0,)), ("leave", 7))
        raised(NotNow, deed_done, brute.CHESS, ((7,), (None,)), ("mend", 7))
        raised(NotNow, deed_done, brute.CHESS, ((7,), (None,)), ("label", 7, 0))
        raised(NotNow, deed_done, brute.CHESS, ((7, 8, 9, 6), (0, None, 0, None)), ("leave", 8))

    def test_at_most_400_houses(self):
        net = tuple(range(1, 401))
        houses = (net, (None,) * 400)
        raised(NotNow, deed_done, brute.CHESS, houses, ("come", 500, 0))
        less = deed_done(brute.CHESS, houses, ("leave", 400))
        self.assertEqual(len(deed_done(brute.CHESS, less, ("come", 500, 399))[0]), 400)

    def test_against_the_words(self):
        rng = random.Random(91)
        done = 0
        for problem in brute.random_problems(92, 60, 3):
            names = [1, 2, 3, 4, 5, 6, 10 ** 9]
            houses = (tuple(rng.sample(names, 3)), (None,) * 3)
            for _ in range(40):
                deed = random_deed(rng, problem, names)
                expected = slow_done(problem, houses, deed)
                if expected is None:
                    raised(NotNow, deed_done, problem, houses, deed)
                else:
                    self.assertEqual(deed_done(problem, houses, deed), expected)
                    houses = expected
                    done += 1
        self.assertGreater(done, 300)


class TestSession(unittest.TestCase):
    def test_wrong_values(self):
        for thing in STRANGE:
            self.assertIsNone(raised(BadProblem, Session, thing, None).part)
        for net in ((), [1], (1, 1), (0,), (True,), None, tuple(range(1, 402))):
            raised(BadNet, Session, brute.CHESS, net)
        session = Session(problem=brute.CHESS, net=(4, 5))
        for most in (-1, 401, True, None, 1.0):
            self.assertEqual(raised(BadNumber, session.go, most).part, "most")
        raised(NotNow, session.undo)
        raised(NotNow, session.redo)
        raised(BadDeed, session.do, ("leave", 0))
        raised(BadDeed, session.do, ["leave", 4])
        raised(NotNow, session.do, ("leave", 6))
        self.assertEqual(shown(session), shown(Session(brute.CHESS, (4, 5))))

    def test_a_session_by_hand(self):
        session = Session(brute.COLOURS, (4, 5, 6))
        self.assertEqual((session.problem, session.net), (brute.COLOURS, (4, 5, 6)))
        self.assertEqual(session.houses(), ((4, 5, 6), (None, None, None)))
        self.assertIsNone(session.do(("label", 5, 0)))
        self.assertIsNone(session.do(("mend", 4)))
        self.assertIsNone(session.do(("come", 9, 6)))
        self.assertEqual(session.houses(), ((4, 5, 6, 9), (1, 0, None, None)))
        self.assertEqual(session.reaches(), [0])
        self.assertIsNone(session.undo())
        self.assertIsNone(session.undo())
        self.assertEqual(session.undone(), [("mend", 4), ("come", 9, 6)])
        self.assertEqual(session.deeds(), [("label", 5, 0)])
        self.assertEqual(session.reaches(), [])
        self.assertIsNone(session.redo())
        self.assertEqual(session.houses(), ((4, 5, 6), (1, 0, None)))
        self.assertEqual(session.undone(), [("come", 9, 6)])
        self.assertEqual(session.line(), [
            ((4, 5, 6), (None,) * 3), ((4, 5, 6), (None, 0, None)), ((4, 5, 6), (1, 0, None))])
        raised(NotNow, session.do, ("label", 6, 0))
        self.assertEqual(session.undone(), [("come", 9, 6)])
        self.assertEqual(session.go(0), 0)
        self.assertEqual(session.undone(), [("come", 9, 6)])
        self.assertEqual(session.go(400), 1)
        self.assertEqual(session.undone(), [])
        self.assertEqual(session.houses()[1], (1, 0, 2))
        self.assertEqual(session.deeds()[-1], ("mend", 6))
        self.assertEqual(session.go(400), 0)

    def test_any_sequence(self):
        rng = random.Random(93)
        for problem in brute.random_problems(94, 50, 3):
            names = [1, 2, 3, 4, 5, 6]
            net = tuple(rng.sample(names, 3))
            session, other = Session(problem, net), Session(problem, net)
            present, undone = [], []
            for _ in range(60):
                before = copy.deepcopy(shown(session))
                word = rng.choice(("do", "do", "do", "undo", "redo", "go"))
                try:
                    if word == "do":
                        deed = random_deed(rng, problem, names)
                        session.do(deed)
                        present.append(deed)
                        undone = []
                    elif word == "undo":
                        session.undo()
                        undone.insert(0, present.pop())
                    elif word == "redo":
                        session.redo()
                        present.append(undone.pop(0))
                    else:
                        many = session.go(2)
                        present = session.deeds()
                        self.assertEqual(present[:len(present) - many], before[3])
                        self.assertTrue(all(deed[0] == "mend" for deed in present[len(present) - many:]))
                        undone = undone if many == 0 else []
                except NotNow:
                    self.assertEqual(shown(session), before)
                self.assertEqual((session.deeds(), session.undone()), (present, undone))
                self.check(session)
            self.assertEqual(shown(other), shown(Session(problem, net)))

    def check(self, session):
        """All that is told is that of a new session that does just the present deeds."""
        houses = (session.net, (None,) * len(session.net))
        line, reaches = [houses], []
        for deed in session.deeds():
            if deed[0] == "mend":
                reaches.append(reach_at(session.problem, houses[1], houses[0].index(deed[1])))
            houses = slow_done(session.problem, houses, deed)
            line.append(houses)
        self.assertEqual(session.line(), line)
        self.assertEqual(session.reaches(), reaches)
        self.assertEqual(session.houses(), houses)
        self.assertTrue(is_net(houses[0]) and is_fair(session.problem, houses[1]))

    def test_equal(self):
        one, other = Session(brute.COLOURS, (1, 2)), Session(brute.COLOURS, (1, 2))
        self.assertEqual(one, other)
        one.do(("mend", 1))
        self.assertNotEqual(one, other)
        other.do(("mend", 1))
        self.assertEqual(one, other)
        one.undo()
        self.assertNotEqual(one, Session(brute.COLOURS, (1, 2)))
        other.undo()
        self.assertEqual(one, other)
        self.assertNotEqual(Session(brute.COLOURS, (1, 2)), Session(brute.COLOURS, (2, 1)))
        self.assertNotEqual(Session(brute.COLOURS, (1, 2)), Session(brute.CHESS, (1, 2)))
        self.assertNotEqual(one, None)
        self.assertNotEqual(one, ((1, 2), (None, None)))

    def test_two_sessions_stand_side_by_side(self):
        one, other = Session(brute.COLOURS, (1, 2, 3)), Session(brute.COLOURS, (1, 2, 3))
        one.go(2)
        self.assertEqual(shown(other), shown(Session(brute.COLOURS, (1, 2, 3))))
        other.do(("come", 9, 0))
        one.undo()
        self.assertEqual(other.houses(), ((9, 1, 2, 3), (None,) * 4))
        self.assertEqual(other.undone(), [])

    def test_lists_are_new(self):
        session = Session(brute.COLOURS, (1, 2, 3))
        session.go(3)
        session.undo()
        before = copy.deepcopy(shown(session))
        for told in (session.deeds(), session.undone(), session.line(), session.reaches()):
            self.assertIs(type(told), list)
            told.append(7)
            told.reverse()
        self.assertEqual(shown(session), before)

    def test_one_house_and_400(self):
        one = Session(RingProblem(1, [(0, 0)]), (10 ** 9,))
        self.assertEqual(one.go(400), 1)
        self.assertEqual(one.houses(), ((10 ** 9,), (0,)))
        raised(NotNow, one.do, ("leave", 10 ** 9))
        chess = Session(brute.CHESS, (5,))
        self.assertEqual(chess.go(400), 0)
        self.assertIsNone(chess.do(("come", 6, 5)))
        self.assertEqual(chess.go(400), 2)
        for problem in (brute.COLOURS, brute.WIELANDT_12, brute.WHOLE_12):
            session = Session(problem, tuple(range(1, 401)))
            self.assertEqual(session.go(400), 400)
            self.assertTrue(is_right(problem, session.houses()[1]))
            self.assertEqual(len(session.reaches()), 400)
            raised(NotNow, session.do, ("come", 900, 0))
            session.do(("bare", 77))
            self.assertEqual(session.go(5), 1)

    def test_go_stops_where_nothing_can_be_mended(self):
        session = Session(brute.CHESS, tuple(range(1, 6)))
        many = session.go(400)
        self.assertEqual(many, 4)
        self.assertEqual(session.houses()[1].count(None), 1)
        self.assertEqual(session.go(400), 0)


if __name__ == "__main__":
    unittest.main()
