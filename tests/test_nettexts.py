"""Promise 84: texts of nets."""

import itertools
import random
import re
import unittest

from roundwright.errors import BadNet, BadText
from roundwright.nettexts import net_of_text, net_text, tail_of_net_text
from tests.brute import STRANGE, raised


def slow_net(text):
    """The net that a text tells, None if it is no text of a net."""
    if not re.fullmatch("[ 0-9]*", text):
        return None
    words = text.split()
    if not 1 <= len(words) <= 400 or any(word[0] == "0" or int(word) > 10 ** 9 for word in words):
        return None
    return tuple(map(int, words)) if len(set(words)) == len(words) else None


def all_taken(first):
    """A text in which all names are taken that begin with these figures, but those told later."""
    found = []
    for steps in range(10 - len(first)):
        found += [first + "".join(more) for more in itertools.product("0123456789", repeat=steps)]
    return found


class TestNetTexts(unittest.TestCase):
    def test_there_and_back(self):
        rng = random.Random(811)
        for size in (1, 2, 5, 30, 399, 400):
            net = tuple(rng.sample(range(1, 10 ** 9 + 1), size))
            text = net_text(net)
            self.assertEqual(text, " ".join(map(str, net)))
            self.assertEqual(net_of_text(text), net)
            self.assertEqual(tail_of_net_text(text), "")
            wide = "  " + text.replace(" ", "   ") + " "
            self.assertEqual(net_of_text(wide), net)
        self.assertEqual(net_text(net=(10 ** 9, 1)), "1000000000 1")
        self.assertEqual(net_of_text(text="1000000000"), (10 ** 9,))

    def test_tails_against_all_strings(self):
        for text in ("", "  ", "1", "12 1", "12 1 ", "5 5", "10 1", "1 1", "1 10 1", "999999999 9", "1000000000 1",
                     "1000000000 100000000", "99999999", "1000000000", "7 77 777 7", "1 11 12 10 1", "0", "01", "1  0", "a",
                     "12a", "1\n", "1000000001", "2000000000", "1 1 ", "1 1 2", "5 5 6"):
            for at in range(len(text) + 1):
                told = text[:at]
                tail = tail_of_net_text(told)
                if slow_net(told) is not None:
                    self.assertEqual(tail, "")
                    self.assertEqual(net_of_text(told), slow_net(told))
                found = next((more for size in range(4) for more in map("".join, itertools.product(" 0123456789",
                                                                                                 repeat=size))
                              if slow_net(told + more) is not None), None)
                self.assertEqual(tail, found, told)
                if tail != "":
                    place = raised(BadText, net_of_text, told).at
                    alive = [cut for cut in range(at + 1) if tail_of_net_text(told[:cut]) is not None]
                    self.assertEqual(alive, list(range(place + 1)))

    def test_each_sign_changed(self):
        rng = random.Random(812)
        for _ in range(60):
            net = tuple(rng.sample(range(1, 40), rng.randint(1, 6)))
            text = net_text(net)
            at = rng.randrange(len(text))
            bent = text[:at] + rng.choice(" 0123456789x") + text[at + 1:]
            told = slow_net(bent)
            if told is not None:
                self.assertEqual(net_of_text(bent), told)
                continue
            place = raised(BadText, net_of_text, bent).at
            tail = tail_of_net_text(bent[:place])
            self.assertIsNotNone(slow_net(bent[:place] + tail))
            if place < len(bent):
                self.assertIsNone(tail_of_net_text(bent[:place + 1]))

    def test_a_name_told_twice(self):
        # Wrong at the sign behind it, unless no number that begins with it is free: then at its last figure.
        self.assertEqual(raised(BadText, net_of_text, "12 12 3").at, 5)
        self.assertEqual(raised(BadText, net_of_text, "12 12").at, 5)
        self.assertEqual(tail_of_net_text("12 12"), "0")
        self.assertEqual(raised(BadText, net_of_text, "123456789 123456789").at, 18)
        self.assertEqual(raised(BadText, net_of_text, "1000000000 1000000000").at, 20)
        self.assertEqual(raised(BadText, net_of_text, "100000000 100000000").at, 19)
        self.assertEqual(tail_of_net_text("100000000 100000000"), "0")
        self.assertEqual(raised(BadText, net_of_text, "1000000000 100000000 100000000").at, 29)
        taken = all_taken("2345678")
        self.assertEqual(len(taken), 111)
        text = " ".join(taken) + " "
        self.assertEqual(raised(BadText, net_of_text, text + "2345678").at, len(text) + 6)
        self.assertEqual(tail_of_net_text(text + "234567"), "")
        self.assertEqual(tail_of_net_text(" ".join(taken[:-1]) + " 2345678"), "99")
        self.assertEqual(tail_of_net_text(" ".join(taken[1:]) + " 2345678"), "")
        self.assertEqual(tail_of_net_text("5 50 51 52 53 54 55 56 57 58 59 5"), "00")

    def test_limits(self):
        text = " ".join(map(str, range(1, 401)))
        self.assertEqual(net_of_text(text), tuple(range(1, 401)))
        self.assertEqual(tail_of_net_text(text + "  "), "")
        self.assertEqual(raised(BadText, net_of_text, text + " 401").at, len(text) + 1)
        self.assertIsNone(tail_of_net_text(text + " 4"))
        # 7, 70 to 79 and so on up to 399 are taken: of four figures 7000 is free, of three 700.
        self.assertEqual(tail_of_net_text(" ".join(map(str, range(1, 400))) + " 7"), "00")

    def test_wrong_values(self):
        for call in (tail_of_net_text, net_of_text):
            for thing in (None, True, 3, b"1", ["1"], (1,), {}, object()):
                self.assertIsNone(raised(BadText, call, thing).at)
        for net in STRANGE + ((), (0,), (1, 1), (True,), [1], (10 ** 9 + 1,), tuple(range(1, 402))):
            raised(BadNet, net_text, net)
        for text, at in (("", 0), ("  ", 2), ("0", 0), ("1 0", 2), ("1,2", 1), ("1\n2", 1), ("1\t2", 1), ("-1", 0), ("+1", 0),
                         ("1.0", 1), ("\u0661", 0), ("1\u0661", 1), ("10000000000", 10), ("1000000001", 9)):
            self.assertEqual(raised(BadText, net_of_text, text).at, at)


if __name__ == "__main__":
    unittest.main()
