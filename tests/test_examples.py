"""Promise 87: the two examples, letter for letter."""

import unittest

from roundwright.examples import examples

COLOURS = [
    "ring",
    "labels red green blue",
    "red -> green blue",
    "green -> red blue",
    "blue -> red green",
]
COLOURS_PROGRAM = [
    "then",
    "whole within 12",
    "names",
    "bits within 1",
    "bits within 1",
    "bits within 1",
    "bits within 1",
    "drop 5 within 1",
    "drop 4 within 1",
    "drop 3 within 1",
    "stay within 1",
    "fill red within 3",
]
CHESS = [
    "path",
    "labels black white",
    "starts black white",
    "ends black white",
    "black -> white",
    "white -> black",
]
CHESS_PROGRAM = [
    "then",
    "whole within 400",
]


class TestExamples(unittest.TestCase):
    def test_letter_for_letter(self):
        expected = [
            ("\n".join(COLOURS), "\n".join(COLOURS + COLOURS_PROGRAM)),
            ("\n".join(CHESS), "\n".join(CHESS + CHESS_PROGRAM)),
        ]
        found = examples()
        self.assertIs(type(found), list)
        self.assertTrue(all(type(pair) is tuple for pair in found))
        self.assertEqual(found, expected)

    def test_the_list_is_new(self):
        examples().clear()
        self.assertEqual(len(examples()), 2)
        self.assertTrue(all(program.startswith(problem + "\n") for problem, program in examples()))


if __name__ == "__main__":
    unittest.main()
