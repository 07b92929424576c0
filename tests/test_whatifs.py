"""Promises 95 and 97: deeds left out or exchanged, and desks."""

import copy
import random
import unittest

from roundwright.deedtexts import deed_text, draft_text
from roundwright.desk import Desk
from roundwright.drafts import fills, free_labels
from roundwright.errors import BadNet, BadNumber, BadProblem, BadSession, CannotCome, NotNow
from roundwright.journals import journal, taken_up
from roundwright.mends import reach_at
from roundwright.problems import PathProblem, RingProblem
from roundwright.sessions import Session, deed_done
from roundwright.whatifs import exchangeable, last_change, loose, without
from tests import brute
from tests.brute import STRANGE, raised


def random_deed(rng, session, most):
    net = session.houses()[0]
    name = rng.choice(net + (rng.randint(1, most),))
    word = rng.choice(("come", "leave", "label", "label", "bare", "mend", "mend"))
    if word == "come":
        return ("come", rng.randint(1, most), rng.choice(net + (0,)))
    return (word, name, rng.randrange(session.problem.labels)) if word == "label" else (word, name)


def random_session(rng, problem, deeds, most=12, size=4):
    session = Session(problem, tuple(rng.sample(range(1, most + 1), rng.randint(1, size))))
    for _ in range(deeds):
        try:
            session.do(random_deed(rng, session, most))
        except NotNow:
            pass
        if rng.random() < 0.05 and session.deeds():
            session.undo()
    return session


def houses_by(problem, houses, deeds):
    """The houses behind deeds, or the number of the first one that cannot be done."""
    for number, deed in enumerate(deeds):
        try:
            houses = deed_done(problem, houses, deed)
        except NotNow:
            return number
    return houses


class TestWhatIfs(unittest.TestCase):
    def test_against_doing_all_deeds(self):
        rng = random.Random(721)
        found = set()
        for problem in brute.random_problems(722, 150, 3):
            session = random_session(rng, problem, 14)
            before = copy.deepcopy(session)
            deeds, line = session.deeds(), session.line()
            expected = []
            for number in range(len(deeds)):
                rest = deeds[:number] + deeds[number + 1:]
                told = houses_by(problem, line[0], rest)
                if isinstance(told, int):
                    other = told if told < number else told + 1
                    self.assertEqual(raised(CannotCome, without, session, number).number, other)
                    continue
                expected.append(number)
                new = without(session, number)
                self.assertEqual((new.deeds(), new.undone(), new.houses()), (rest, [], told))
                self.assertEqual((new.problem, new.net), (problem, session.net))
            self.assertEqual(loose(session), expected)
            swapped = [number for number in range(len(deeds) - 1) if houses_by(
                problem, line[number], [deeds[number + 1], deeds[number]]) == line[number + 2]]
            self.assertEqual(exchangeable(session), swapped)
            found.add((bool(expected), bool(swapped), len(expected) < len(deeds)))
            for name in session.houses()[0]:
                self.assertEqual(last_change(session, name), self.slow_change(line, name))
            self.assertEqual(session, before)
            self.assertEqual(session.undone(), before.undone())
        self.assertGreater(len(found), 3)

    def slow_change(self, line, name):
        borne = [dict(zip(*houses)).get(name, "away") for houses in line]
        return max((number for number in range(len(borne) - 1) if borne[number] != borne[number + 1]), default=None)

    def test_mends_far_apart_are_exchangeable(self):
        rng = random.Random(723)
        checked = 0
        for problem in brute.random_problems(724, 60, 3):
            size = rng.randint(8, 14)
            session = Session(problem, tuple(range(1, size + 1)))
            for name in rng.sample(range(1, size + 1), size):
                try:
                    session.do(("mend", name))
                except NotNow:
                    break
            deeds, reaches, able = session.deeds(), session.reaches(), exchangeable(session)
            for number in range(len(deeds) - 1):
                apart = brute.distance(problem, size, deeds[number][1] - 1, deeds[number + 1][1] - 1)
                if apart > reaches[number] + reaches[number + 1] + 2:
                    checked += 1
                    self.assertIn(number, able)
        self.assertGreater(checked, 50)

    def test_plain_deeds_far_apart_are_exchangeable(self):
        rng = random.Random(725)
        checked = 0
        for problem in brute.random_problems(726, 120, 3):
            session = random_session(rng, problem, 40, 40, 12)
            deeds, line, able = session.deeds(), session.line(), exchangeable(session)
            ring = isinstance(problem, RingProblem)
            for number in range(len(deeds) - 1):
                pair = deeds[number:number + 2]
                if "mend" in (pair[0][0], pair[1][0]):
                    continue
                names = [set(deed[1:3] if deed[0] == "come" else deed[1:2]) - {0} for deed in pair]
                if any(deed[0] == "come" and deed[2] == 0 for deed in pair):
                    continue
                if any(one == other or self.near(houses[0], ring, one, other)
                       for houses in line[number:number + 3] for one in names[0] for other in names[1]):
                    continue
                checked += 1
                self.assertIn(number, able)
        self.assertGreater(checked, 50)

    def near(self, net, ring, one, other):
        if one not in net or other not in net:
            return False
        apart = abs(net.index(one) - net.index(other))
        return apart <= 1 or (ring and apart == len(net) - 1)

    def test_by_hand(self):
        session = Session(brute.COLOURS, (12, 7, 30))
        for deed in (("label", 7, 0), ("mend", 12), ("bare", 12), ("come", 5, 12), ("leave", 5), ("label", 7, 0)):
            session.do(deed)
        self.assertEqual(raised(CannotCome, without, session, 1).number, 2)
        self.assertEqual(raised(CannotCome, without, session, 3).number, 4)
        self.assertEqual(without(session=session, number=5).deeds(), session.deeds()[:5])
        self.assertEqual(loose(session=session), [0, 2, 4, 5])
        self.assertEqual(exchangeable(session=session), [2, 4])
        self.assertEqual([last_change(session, name) for name in (12, 7, 30)], [2, 0, None])
        session.undo()
        self.assertEqual(without(session, 4).undone(), [])
        self.assertEqual(raised(BadNumber, without, session, 5).part, "number")
        self.assertEqual(last_change(Session(brute.COLOURS, (3,)), 3), None)

    def test_many_deeds(self):
        rng = random.Random(727)
        session = Session(brute.COLOURS, tuple(range(1, 41)))
        session.go(400)
        while len(session.deeds()) < 300:
            try:
                session.do(random_deed(rng, session, 60))
            except NotNow:
                pass
        told = loose(session)
        for number in (told[0], told[-1], 0, 150, 299):
            if number in told:
                self.assertEqual(len(without(session, number).deeds()), 299)
            else:
                raised(CannotCome, without, session, number)
        self.assertIn(299, told)
        self.assertTrue(set(exchangeable(session)) <= set(range(299)))

    def test_wrong_values(self):
        for thing in STRANGE + (brute.COLOURS, Desk(brute.COLOURS, (1,))):
            for call in (loose, exchangeable):
                raised(BadSession, call, thing)
            for call in (without, last_change):
                raised(BadSession, call, thing, None)
        session = Session(brute.COLOURS, (1, 7))
        session.do(("label", 7, 0))
        for number in (-1, 1, True, False, None, 0.0, "0"):
            self.assertEqual(raised(BadNumber, without, session, number).part, "number")
        for name in (0, 2, True, None, 7.0, "7", [7]):
            self.assertEqual(raised(BadNumber, last_change, session, name).part, "name")
        self.assertEqual(raised(BadNumber, without, Session(brute.COLOURS, (1,)), 0).part, "number")


class SlowDesk:
    """A desk straight from the words of the document."""

    def __init__(self, problem, net):
        self.session = Session(problem, net)

    def say(self, line):
        session, problem = self.session, self.session.problem
        net, draft = session.houses()
        numbers = [str(number) for number in range(0, 401)]
        words = line.split(" ") if isinstance(line, str) else []
        deeds = {deed_text(problem, deed): deed for deed in self.deeds()}
        if isinstance(line, str) and (line in deeds or line in ("undo", "redo")):
            try:
                if line in deeds:
                    session.do(deeds[line])
                else:
                    session.undo() if line == "undo" else session.redo()
            except NotNow:
                return ("cannot",)
            return ("draft " + draft_text(problem, session.houses()[1]),)
        if len(words) == 2 and words[0] == "go" and words[1] in numbers:
            many = session.go(int(words[1]))
            return (f"came {many}", "draft " + draft_text(problem, session.houses()[1]))
        if len(words) == 2 and words[0] in ("reach", "free") and words[1] in [str(name) for name in net]:
            place = net.index(int(words[1]))
            if words[0] == "free":
                return tuple(str(label) for label in free_labels(problem, draft, place)) or ("nothing",)
            if draft[place] is None:
                return (f"reach {str(reach_at(problem, draft, place)).lower()}",)
        plain = {"draft": lambda: ("draft " + draft_text(problem, draft),),
                 "names": lambda: ("names " + " ".join(map(str, net)),), "journal": lambda: tuple(journal(session)),
                 "fills": lambda: (f"fills {fills(problem, draft)}",), "loose": lambda: tuple(map(str, loose(session)))}
        if isinstance(line, str) and line in plain:
            return plain[line]() or ("nothing",)
        return ("what",)

    def deeds(self):
        labels = range(self.session.problem.labels)
        for name in range(1, 13):
            yield from [(word, name) for word in ("leave", "bare", "mend")]
            yield from [("label", name, label) for label in labels]
            yield from [("come", name, behind) for behind in range(13)]


class TestDesks(unittest.TestCase):
    def test_against_the_words(self):
        rng = random.Random(728)
        heads = set()
        for problem in brute.random_problems(729, 60, 3):
            net = tuple(rng.sample(range(1, 13), rng.randint(1, 4)))
            desk, slow = Desk(problem, net), SlowDesk(problem, net)
            for _ in range(30):
                line = rng.choice((
                    "undo", "redo", "draft", "names", "journal", "fills", "loose", f"go {rng.randint(0, 5)}",
                    f"reach {rng.randint(1, 12)}", f"free {rng.randint(1, 12)}", f"label {rng.randint(1, 12)} {rng.randint(0, 3)}",
                    f"mend {rng.randint(1, 12)}", f"mend {rng.randint(1, 12)}", f"bare {rng.randint(1, 12)}",
                    f"come {rng.randint(1, 12)} {rng.randint(0, 12)}", f"leave {rng.randint(1, 12)}", "loose ", " draft", "go", "go 401"))
                found = desk.say(line)
                self.assertEqual(found, slow.say(line), line)
                self.assertEqual(desk.session, slow.session)
                heads.add(found[0].split(" ")[0])
        self.assertTrue({"draft", "cannot", "came", "names", "fills", "reach", "what", "nothing"} <= heads)

    def test_by_hand(self):
        desk = Desk(problem=brute.COLOURS, net=(12, 7, 30))
        self.assertEqual(desk.session, Session(brute.COLOURS, (12, 7, 30)))
        told = (
            ("journal", ("nothing",)), ("loose", ("nothing",)), ("undo", ("cannot",)), ("redo", ("cannot",)),
            ("fills", ("fills 6",)), ("label 7 0", ("draft - 0 -",)), ("reach 12", ("reach 0",)), ("reach 7", ("what",)),
            ("free 12", ("1", "2")), ("go 1", ("came 1", "draft 1 0 -")), ("go 400", ("came 1", "draft 1 0 2")),
            ("go 0", ("came 0", "draft 1 0 2")), ("undo", ("draft 1 0 -",)), ("journal", ("label 7 0", "mend 12")),
            ("redo", ("draft 1 0 2",)), ("names", ("names 12 7 30",)), ("loose", ("0", "1", "2")),
            ("come 5 0", ("draft - 1 0 2",)), ("names", ("names 5 12 7 30",)), ("mend 12", ("cannot",)),
            ("label 5 1", ("cannot",)), ("label 5 3", ("what",)), ("leave 5", ("draft 1 0 2",)), ("free 5", ("what",)))
        for line, answer in told:
            self.assertEqual(desk.say(line=line), answer, line)
        chess = Desk(brute.CHESS, (1, 2, 3))
        chess.say("go 400")
        self.assertEqual(chess.say("draft"), ("draft 0 1 -",))
        self.assertEqual((chess.say("reach 3"), chess.say("free 3"), chess.say("mend 3")), (("reach none",), ("nothing",), ("cannot",)))

    def test_lines_that_are_not_known(self):
        desk = Desk(brute.COLOURS, (12, 7, 30))
        desk.say("label 7 0")
        before = copy.deepcopy(desk.session)
        for line in STRANGE + (
                "", " ", "Draft", "draft ", " draft", "draft\n", "undo 1", "go -1", "go 401", "go 01", "go 00", "go", "go  1", "go 1 ",
                "go one", "go 1.0", "go +1", "reach", "reach 5", "reach 07", "free 99999999999", "free 0", "mend 012", "mend 0",
                "come 5", "come 5 00", "label 7", "label 7 12", "hand 0 1 0", "names 7", "journal 0", "reach 12 7", "fills\t",
                "go \u0663", "mend \u0661", 7, ("draft",), ["draft"], b"draft"):
            self.assertEqual(desk.say(line), ("what",))
            self.assertEqual(desk.session, before)

    def test_great_desks(self):
        net = tuple(range(1, 401))
        desk = Desk(brute.COLOURS, net)
        self.assertEqual(desk.say("fills"), (f"fills {2 ** 400 + 2}",))
        came, draft = desk.say("go 400")
        self.assertEqual((came, len(draft.split(" "))), ("came 400", 401))
        self.assertEqual(desk.say("come 500 7"), ("cannot",))
        self.assertEqual(len(desk.say("journal")), 400)
        self.assertEqual(taken_up(brute.COLOURS, net, list(desk.say("journal"))), desk.session)
        self.assertEqual(desk.say("fills"), ("fills 1",))

    def test_wrong_values(self):
        for thing in STRANGE:
            self.assertIsNone(raised(BadProblem, Desk, thing, None).part)
            raised(BadNet, Desk, brute.COLOURS, thing)
        self.assertEqual(Desk(PathProblem(1, [], [0], [0]), (1,)).say("mend 1"), ("draft 0",))


if __name__ == "__main__":
    unittest.main()
