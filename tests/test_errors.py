"""Promise 5: the errors and their attributes."""

import unittest

from roundwright import errors
from tests.brute import Odd

PLAIN = (
    "BadBytes BadColouring BadDeed BadDraft BadFront BadHouse BadHouses BadKind BadLabelling BadLabels BadLetters "
    "BadMap BadMarks BadNames BadNet BadOrder BadPhrase BadPiece BadSession BadSpans BadState BadTree BadWindow "
    "NoProgram NotBending NotNow").split()
TOLD = {
    "BadDeeds": "at", "BadJournal": "number", "BadLead": "part", "BadLog": "at", "BadNumber": "part",
    "BadProblem": "part", "BadProgram": "part", "BadSizes": "part", "BadTable": "part", "BadText": "at",
    "BadWeb": "part", "BadWork": "part", "CannotCome": "number", "TooMany": "most"}


class TestErrors(unittest.TestCase):
    def test_there_are_forty_directly_below_round_error(self):
        self.assertEqual(errors.RoundError.__bases__, (ValueError,))
        self.assertEqual(len(PLAIN) + len(TOLD), 40)
        for name in PLAIN + list(TOLD):
            self.assertEqual(getattr(errors, name).__bases__, (errors.RoundError,), name)
            self.assertEqual(getattr(errors, name).__module__, "roundwright.errors")

    def test_attributes_take_any_value_by_position_and_by_name(self):
        for name, attribute in TOLD.items():
            kind = getattr(errors, name)
            for value in (None, "labels", 7, -1, (1, 2), [3], {}, 10 ** 5000, Odd(), "{x}", True):
                self.assertIs(getattr(kind(value), attribute), value, name)
                self.assertIs(getattr(kind(**{attribute: value}), attribute), value, name)
                self.assertIsInstance(str(kind(value)), str)

    def test_the_others_are_made_of_a_message(self):
        for name in PLAIN + ["RoundError"]:
            kind = getattr(errors, name)
            self.assertEqual(str(kind("what is wrong")), "what is wrong")
            self.assertEqual(str(kind(message="what is wrong")), "what is wrong")

    def test_they_are_caught_as_values_errors(self):
        with self.assertRaises(ValueError):
            raise errors.BadNumber("size")
        with self.assertRaises(errors.RoundError):
            raise errors.BadNet("no net")


if __name__ == "__main__":
    unittest.main()
