"""Promise 11: nets and windows."""

import unittest

from roundwright.errors import BadNet, BadNumber
from roundwright.nets import is_net, path_window, ring_window
from tests.brute import STRANGE, raised


class TestNets(unittest.TestCase):
    def test_any_value_is_judged(self):
        for thing in ((1,), (10 ** 9,), (3, 1, 2), tuple(range(1, 401))):
            self.assertIs(is_net(thing), True)
        wrong = STRANGE + ((), [1], (0,), (10 ** 9 + 1,), (1, 1), (True, 2), (1, 2.0), tuple(range(1, 402)), (-1,))
        for thing in wrong:
            self.assertIs(is_net(thing), False, repr(thing)[:40])
            raised(BadNet, ring_window, thing, None, None)
            raised(BadNet, path_window, thing, None, None)

    def test_wrong_numbers(self):
        for call in (ring_window, path_window):
            for place in (-1, 3, True, None, 1.0, "1"):
                self.assertEqual(raised(BadNumber, call, (5, 6, 7), place, None).part, "place")
            for rounds in (-1, 401, False, None, 1.0):
                self.assertEqual(raised(BadNumber, call, (5, 6, 7), 0, rounds).part, "rounds")

    def test_ring_windows(self):
        net = (5, 6, 7)
        self.assertEqual(ring_window(net, 1, 0), (6,))
        self.assertEqual(ring_window(net, 0, 1), (7, 5, 6))
        self.assertEqual(ring_window(net, 2, 2), (5, 6, 7, 5, 6))
        self.assertEqual(ring_window(net, 0, 4), (7, 5, 6, 7, 5, 6, 7, 5, 6))
        self.assertEqual(ring_window((9,), 0, 2), (9,) * 5)
        self.assertEqual(ring_window((8, 9), 1, 1), (8, 9, 8))
        self.assertEqual(ring_window((9,), place=0, rounds=400), (9,) * 801)

    def test_path_windows(self):
        net = (5, 6, 7)
        self.assertEqual(path_window(net, 1, 0), (6,))
        self.assertEqual(path_window(net, 0, 1), (0, 5, 6))
        self.assertEqual(path_window(net, 1, 1), (5, 6, 7))
        self.assertEqual(path_window(net, 2, 2), (5, 6, 7, 0, 0))
        self.assertEqual(path_window((9,), 0, 2), (0, 0, 9, 0, 0))
        self.assertEqual(path_window((9,), 0, 400), (0,) * 400 + (9,) + (0,) * 400)

    def test_great_nets(self):
        net = tuple(range(10 ** 9, 10 ** 9 - 400, -1))
        self.assertEqual(ring_window(net, 399, 400), tuple(net[at % 400] for at in range(-1, 800)))
        self.assertEqual(len(path_window(net, 399, 400)), 801)
        self.assertEqual(path_window(net, 399, 400)[:401], (0,) + net)


if __name__ == "__main__":
    unittest.main()
