"""Promise 96: deeds and drafts as texts, and journals."""

import random
import unittest

from roundwright.deedtexts import deed_of_text, deed_text, draft_of_text, draft_text
from roundwright.drafts import is_draft
from roundwright.errors import BadDeed, BadDraft, BadJournal, BadNet, BadPhrase, BadProblem, BadSession, NotNow
from roundwright.journals import journal, taken_up
from roundwright.problems import RingProblem
from roundwright.sessions import Session, is_deed
from tests import brute
from tests.brute import STRANGE, raised
from tests.test_sessions import DEEDS, random_deed, shown


class TestDeedTexts(unittest.TestCase):
    def test_by_hand(self):
        texts = ("come 12 0", "come 1 1000000000", "leave 3", "label 3 1", "bare 3", "mend 1000000000")
        for deed, text in zip(DEEDS, texts):
            self.assertEqual(deed_text(brute.CHESS, deed), text)
            self.assertEqual(deed_of_text(brute.CHESS, text), deed)
            self.assertEqual([type(part) for part in deed_of_text(brute.CHESS, text)], [type(part) for part in deed])

    def test_other_texts(self):
        wrong = (
            "", " ", "come", "come 1", "come 1 2 3", "come  1 2", "come 1 2 ", " come 1 2", "come 1 02", "come 01 2",
            "come 0 1", "come 1 -1", "come +1 1", "come 1 1000000001", "come 1000000001 1", "come 1_0 1", "Come 1 2",
            "leave 0", "leave", "leave 3\n", "leave\t3", "leave 3 4", "label 3 2", "label 3 -", "label 3 1.0",
            "label 3", "bare 3 1", "mend " + "9" * 5000, "mend \u0663", "mend \u00b2", "mend\u00a03", "mend a",
            "undo", "('mend', 3)", "mend 3mend 3", "mend 00", "come 1 00", "label 3 00")
        for text in wrong + STRANGE:
            raised(BadPhrase, deed_of_text, brute.CHESS, text)
        for thing in STRANGE + ((), ("mend", 0), ("mend", True), ["mend", 1], "mend 1"):
            raised(BadDeed, deed_text, brute.CHESS, thing)
        for thing in STRANGE:
            self.assertIsNone(raised(BadProblem, deed_text, thing, None).part)
            self.assertIsNone(raised(BadProblem, deed_of_text, thing, None).part)

    def test_texts_bent_anywhere(self):
        rng = random.Random(101)
        letters = "0123456789 -abcdelmnov"
        texts = [deed_text(brute.CHESS, deed) for deed in DEEDS]
        for _ in range(3000):
            text = rng.choice(texts)
            at = rng.randrange(len(text) + 1)
            bent = text[:at] + rng.choice(letters) + text[at + rng.randint(0, 1):]
            try:
                deed = deed_of_text(brute.CHESS, bent)
            except BadPhrase:
                continue
            self.assertTrue(is_deed(brute.CHESS, deed))
            self.assertEqual(deed_text(brute.CHESS, deed), bent)


class TestDraftTexts(unittest.TestCase):
    def test_by_hand(self):
        self.assertEqual(draft_text(brute.WHOLE_12, (0, None, 11)), "0 - 11")
        self.assertEqual(draft_of_text(brute.WHOLE_12, "0 - 11"), (0, None, 11))
        self.assertEqual(draft_text(brute.CHESS, (None,)), "-")
        self.assertEqual(draft_of_text(brute.CHESS, "-"), (None,))
        # A draft need not be fair.
        self.assertEqual(draft_of_text(brute.CHESS, "0 0"), (0, 0))

    def test_there_and_back(self):
        rng = random.Random(102)
        for problem in (brute.WHOLE_12, brute.CHESS_PATH, brute.COLOURS):
            for size in (1, 2, 7, 400):
                draft = tuple(rng.choice([None] + list(range(problem.labels))) for _ in range(size))
                self.assertEqual(draft_of_text(problem, draft_text(problem, draft)), draft)

    def test_other_texts(self):
        wrong = ("", " ", "0 ", " 0", "0  1", "00", "2", "-1", "0 --", "0,1", "0\n1", "None", "+0", "\u0660", "0 1 x",
                 "- " * 400 + "-", "0" * 4000, "1 01")
        for text in wrong + STRANGE:
            raised(BadPhrase, draft_of_text, brute.CHESS, text)
        for thing in ((), [0], (2,), (True,), None, "0"):
            raised(BadDraft, draft_text, brute.CHESS, thing)
        for thing in STRANGE:
            self.assertIsNone(raised(BadProblem, draft_text, thing, None).part)
            self.assertIsNone(raised(BadProblem, draft_of_text, thing, None).part)
        self.assertTrue(is_draft(brute.CHESS, draft_of_text(brute.CHESS, "- " * 399 + "-")))


class TestJournals(unittest.TestCase):
    def test_there_and_back(self):
        rng = random.Random(103)
        for problem in brute.random_problems(104, 40, 3):
            session = Session(problem, (3, 1, 2))
            for _ in range(30):
                try:
                    session.do(random_deed(rng, problem, [1, 2, 3, 4, 5]))
                except NotNow:
                    pass
            lines = journal(session)
            self.assertEqual(lines, [deed_text(problem, deed) for deed in session.deeds()])
            self.assertEqual(taken_up(problem, (3, 1, 2), lines), session)
            for many in range(len(lines) + 1):
                part = taken_up(problem, (3, 1, 2), tuple(lines[:many]))
                self.assertEqual(part.houses(), session.line()[many])
                self.assertEqual(part.undone(), [])
            if lines:
                session.undo()
                self.assertEqual(journal(session), lines[:-1])
                self.assertNotEqual(taken_up(problem, (3, 1, 2), lines[:-1]), session)

    def test_wrong_lines(self):
        net = (1, 2)
        for lines in (None, "mend 1", {"mend 1"}, 5, {0: "mend 1"}):
            self.assertIsNone(raised(BadJournal, taken_up, brute.CHESS, net, lines).number)
        for lines, number in (
                (["mend 3"], 0), (["mend 1", "mend 1"], 1), (["mend 1", "mend 2", ""], 2), (["mend 1", 5, "x"], 1),
                (["label 1 0", "label 2 0"], 1), ([("mend", 1)], 0), (["mend 1 "], 0), (["mend 1", None], 1)):
            self.assertEqual(raised(BadJournal, taken_up, brute.CHESS, net, lines).number, number)
        for thing in STRANGE:
            self.assertIsNone(raised(BadProblem, taken_up, thing, None, None).part)
            self.assertEqual(raised(BadJournal, taken_up, brute.CHESS, net, [thing]).number, 0)
            raised(BadSession, journal, thing)
        raised(BadNet, taken_up, brute.CHESS, [1], None)
        raised(BadNet, taken_up, brute.CHESS, (1, 1), ["x"])

    def test_nothing_handed_in_changes(self):
        lines = ["mend 1", "mend 2"]
        session = taken_up(brute.CHESS, (1, 2), lines)
        before = shown(session)
        lines.append("mend 3")
        journal(session).clear()
        self.assertEqual(shown(session), before)
        self.assertEqual(journal(session), ["mend 1", "mend 2"])

    def test_a_great_session(self):
        problem = RingProblem(3, brute.COLOURS.pairs)
        session = Session(problem, tuple(range(1, 401)))
        session.go(400)
        self.assertEqual(taken_up(problem, session.net, journal(session)), session)


if __name__ == "__main__":
    unittest.main()
