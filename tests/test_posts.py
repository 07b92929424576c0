"""Promises 70 (works), 72 and 75, and 2 (e): letters in any order, and letters with short numbers."""

import copy
import itertools
import random
import unittest

from roundwright.cones import needed
from roundwright.errors import BadDeed, BadDeeds, BadNet, BadNumber, BadWork, NotNow
from roundwright.fronts import is_front
from roundwright.making import made
from roundwright.nets import path_window, ring_window
from roundwright.posts import Post
from roundwright.problems import RingProblem
from roundwright.runs import ran
from roundwright.shortposts import short_run, wrong_run
from roundwright.stages import Program, rounds_of
from roundwright.steppers import Stepper
from roundwright.tablemaps import least_table
from roundwright.tables import Table, answered
from roundwright.works import in_rounds
from tests import brute
from tests.brute import STRANGE, raised
from tests.test_runs import random_net
from tests.test_stages import steps_of


def random_stepper(rng, most=6):
    states = rng.randint(1, most)
    first = [rng.randrange(states) for _ in range(rng.randint(1, 5))]
    return Stepper(states, first, steps_of(states, lambda *_: rng.randrange(states)))


def beside(kind, size, place, side):
    other = place + (1 if side else -1)
    if kind == "ring":
        return other % size
    return other if 0 <= other < size else None


def slow_rounds(stepper, kind, net, rounds):
    states = [stepper.first[name % len(stepper.first)] for name in net]
    for _ in range(rounds):
        around = []
        for place in range(len(net)):
            sides = [beside(kind, len(net), place, side) for side in (0, 1)]
            around.append([stepper.states if at is None else states[at] for at in sides])
        states = [stepper.steps[(one, own, other)] for own, (one, other) in zip(states, around)]
    return tuple(states)


class SlowPost:
    """Letters straight from the words: each house with all states that it had, and what it knows."""

    def __init__(self, stepper, kind, net, rounds):
        self.stepper, self.kind, self.size, self.rounds = stepper, kind, len(net), rounds
        self.past = [[stepper.first[name % len(stepper.first)]] for name in net]
        self.known = [[{}, {}] for _ in net]

    def sides(self, place):
        return [(side, beside(self.kind, self.size, place, side)) for side in (0, 1)
                if beside(self.kind, self.size, place, side) is not None]

    def is_new(self, place, side, number):
        done = len(self.past[place]) - 1
        return done < self.rounds and number in (done, done + 1) and number not in self.known[place][side]

    def useful(self):
        found = []
        for place in range(self.size):
            done = len(self.past[place]) - 1
            for side, at in self.sides(place):
                found += [("hand", place, side, number) for number in range(len(self.past[at]))
                          if self.is_new(place, side, number)]
            if done < self.rounds and all(done in self.known[place][side] for side, _ in self.sides(place)):
                found.append(("round", place))
        return tuple(sorted(found))

    def do(self, deed):
        place = deed[1]
        done = len(self.past[place]) - 1
        if deed[0] == "hand":
            new = self.is_new(*deed[1:])
            if new:
                at = beside(self.kind, self.size, place, deed[2])
                self.known[place][deed[2]][deed[3]] = self.past[at][deed[3]]
            return new
        around = [self.stepper.states, self.stepper.states]
        for side, _ in self.sides(place):
            around[side] = self.known[place][side][done]
        self.past[place].append(self.stepper.steps[(around[0], self.past[place][-1], around[1])])
        self.known[place] = [{number: state for number, state in known.items() if number > done}
                             for known in self.known[place]]
        return True

    def told(self):
        front = tuple(len(past) - 1 for past in self.past)
        return front, tuple(past[-1] for past in self.past), tuple(
            tuple(tuple(sorted(known)) for known in both) for both in self.known)


class TestWorks(unittest.TestCase):
    def test_steppers(self):
        rng = random.Random(701)
        for _ in range(200):
            stepper, kind = random_stepper(rng), rng.choice(("ring", "path"))
            net = random_net(rng, rng.randint(1, 6), 30)
            for rounds in (0, 1, 2, 7):
                self.assertEqual(in_rounds(stepper, kind, net, rounds), slow_rounds(stepper, kind, net, rounds))

    def test_windows(self):
        rng = random.Random(702)
        table = least_table(brute.COLOURS, 1, 6)
        for size in (3, 4, 6):
            net = random_net(rng, size, 6)
            for rounds in (0, 1, 5):
                told = tuple(ring_window(net, place, rounds) for place in range(size))
                self.assertEqual(in_rounds(table, "ring", net, rounds), told)
                self.assertEqual(in_rounds(Program(brute.CHESS, ()), "ring", net, rounds), told)
                told = tuple(path_window(net, place, rounds) for place in range(size))
                self.assertEqual(in_rounds(Program(brute.CHESS_PATH, ()), "path", net, rounds), told)
        self.assertEqual(len(in_rounds(work=made(brute.CHESS), kind="ring", net=random_net(rng, 400), rounds=400)[7]), 801)

    def test_wrong_values(self):
        stepper, table = random_stepper(random.Random(703)), least_table(brute.COLOURS, 1, 6)
        ring, path = Program(brute.CHESS, ()), Program(brute.CHESS_PATH, ())
        for call in (in_rounds, Post):
            for thing in STRANGE + (brute.CHESS,):
                self.assertIsNone(raised(BadWork, call, thing, None, None, None).part)
            for work, kinds in ((stepper, ("Ring", None, 3, "")), (table, ("path", None)), (ring, ("path", [])), (path, ("ring", 1))):
                for kind in kinds:
                    self.assertEqual(raised(BadNumber, call, work, kind, None, None).part, "kind")
            for net in STRANGE + ((1, 1), (0,), [1, 2]):
                raised(BadNet, call, stepper, "ring", net, None)
            for net in ((1, 2), (1, 2, 7), (1, 2, 3, 4, 5, 6, 7)):
                raised(BadNet, call, table, "ring", net, None)
            for rounds in (-1, 401, True, None, 1.0):
                self.assertEqual(raised(BadNumber, call, stepper, "path", (1,), rounds).part, "rounds")
        for work, net, rounds in ((table, (1, 2, 3), 0), (table, (1, 2, 3), 2), (ring, (1,), 1), (made(brute.CHESS), (1,), 0)):
            self.assertEqual(raised(BadNumber, Post, work, "ring", net, rounds).part, "rounds")


class TestPosts(unittest.TestCase):
    def test_against_the_words(self):
        rng = random.Random(704)
        for _ in range(150):
            stepper, kind = random_stepper(rng), rng.choice(("ring", "path"))
            size, rounds = rng.randint(1, 5), rng.randint(0, 5)
            net = random_net(rng, size, 30)
            post, slow = Post(stepper, kind, net, rounds), SlowPost(stepper, kind, net, rounds)
            expected = [slow_rounds(stepper, kind, net, number) for number in range(rounds + 1)]
            for _ in range(60):
                self.assertEqual((post.front, post.states, post.known), slow.told())
                self.assertEqual(post.useful(), slow.useful())
                self.assertTrue(is_front(kind, post.front))
                for place, done in enumerate(post.front):
                    self.assertEqual(post.states[place], expected[done][place])
                labels = tuple(state if done == rounds else None for done, state in zip(post.front, post.states))
                self.assertEqual(post.labels(), labels)
                self.assertEqual(post.useful() == (), post.front == (rounds,) * size)
                if rng.random() < 0.6 and post.useful():
                    deed = rng.choice(post.useful())
                else:
                    place = rng.randrange(size)
                    deed = rng.choice([("hand", place, side, rng.randint(0, rounds)) for side, _ in slow.sides(place)]
                                      + [("round", place)])
                before = copy.deepcopy(vars(post))
                if post.can_come(deed):
                    self.assertEqual(post.do(deed), slow.do(deed))
                else:
                    raised(NotNow, post.do, deed)
                    self.assertEqual(str(vars(post).keys()), str(before.keys()))
                    self.assertEqual((post.front, post.states, post.known), slow.told())
                    self.assertEqual(post.useful(), slow.useful())

    def test_what_can_come(self):
        rng = random.Random(705)
        for _ in range(60):
            stepper, kind = random_stepper(rng), rng.choice(("ring", "path"))
            size, rounds = rng.randint(1, 3), rng.randint(1, 3)
            post = Post(stepper, kind, random_net(rng, size), rounds)
            slow = SlowPost(stepper, kind, post.net, rounds)
            for _ in range(30):
                for place in range(size):
                    self.assertIs(post.can_come(("round", place)), ("round", place) in slow.useful())
                    for side, at in slow.sides(place):
                        for number in range(6):
                            there = number < len(slow.past[at])
                            self.assertIs(post.can_come(("hand", place, side, number)), there)
                            if there and ("hand", place, side, number) not in slow.useful():
                                self.assertIs(post.do(("hand", place, side, number)), False)
                if not post.useful():
                    break
                deed = rng.choice(post.useful())
                post.do(deed)
                slow.do(deed)

    def test_as_in_rounds_whatever_the_choices(self):
        rng = random.Random(706)
        table = least_table(brute.COLOURS, 1, 6)
        for _ in range(40):
            choices = [rng.choice((0, 1, rng.randrange(9), rng.randrange(10 ** 9))) for _ in range(rng.randint(1, 9))]
            stepper, kind = random_stepper(rng), rng.choice(("ring", "path"))
            net, rounds = random_net(rng, rng.randint(1, 12)), rng.randint(0, 9)
            self.assertEqual(Post(stepper, kind, net, rounds).ended(choices), in_rounds(stepper, kind, net, rounds))
            net = random_net(rng, rng.randint(3, 6), 6)
            self.assertEqual(Post(table, "ring", net, 1).ended(choices), answered(table, net))
            problem = rng.choice((brute.COLOURS, brute.TWO_AND_THREE))
            net = random_net(rng, rng.randint(1, 30))
            self.assertEqual(Post(made(problem), "ring", net, 12).ended(choices), ran(made(problem), net))
            path = Program(brute.CHESS_PATH, (("bits", 2), ("stay", 1), ("fill", 1, 2)))
            self.assertEqual(Post(path, "path", net, 6).ended(tuple(choices)), ran(path, net))
            told = Post(stepper, kind, net, 3)
            self.assertEqual((told.work, told.kind, told.net, told.rounds), (stepper, kind, net, 3))

    def test_lost_letters(self):
        # Without one letter that a house needs it does not do all rounds, without any others it does.
        rng = random.Random(707)
        for _ in range(40):
            kind, size, rounds = rng.choice(("ring", "path")), rng.randint(1, 5), rng.randint(1, 3)
            place = rng.randrange(size)
            every = [(at, side, number) for at in range(size) for side in (0, 1) for number in range(rounds + 1)
                     if beside(kind, size, at, side) is not None]
            wanted = needed(kind, size, place, rounds)
            for lost in [[letter] for letter in every] + [[one for one in every if one not in wanted]]:
                post = Post(random_stepper(rng), kind, random_net(rng, size), rounds)
                while True:
                    able = [deed for deed in post.useful() if deed[0] == "round" or deed[1:] not in lost]
                    if not able:
                        break
                    post.do(rng.choice(able))
                self.assertEqual(post.front[place] == rounds, not any(letter in wanted for letter in lost))

    def test_great_posts(self):
        rng = random.Random(708)
        stepper, net = random_stepper(rng), random_net(rng, 400)
        choices = [rng.randrange(10 ** 9) for _ in range(400)]
        self.assertEqual(Post(stepper, "ring", net, 400).ended(choices), in_rounds(stepper, "ring", net, 400))
        whole = made(brute.CHESS)
        self.assertEqual(Post(whole, "ring", net, 200).ended([7, 0, 3]), ran(whole, net))

    def test_edges_and_wrong_values(self):
        stepper = Stepper(2, [0], steps_of(2, lambda left, own, right: right if right < 2 else 1 - own))
        one = Post(stepper, "path", (5,), 2)
        self.assertEqual((one.useful(), one.known), ((("round", 0),), (((), ()),)))
        one.do(("round", 0))
        self.assertEqual((one.front, one.states, one.labels()), ((1,), (1,), (None,)))
        self.assertEqual(one.ended([0]), (0,))
        self.assertEqual(Post(stepper, "ring", (5,), 0).labels(), (0,))
        ring = Post(stepper, "ring", (5,), 1)
        self.assertEqual(ring.useful(), (("hand", 0, 0, 0), ("hand", 0, 1, 0)))
        self.assertIs(ring.do(deed=("hand", 0, 1, 0)), True)
        self.assertEqual(ring.known, (((), (0,)),))
        post = Post(stepper, "path", (2, 4), 2)
        for deed in STRANGE + (("hand", 0, 0, 0), ("hand", 1, 1, 0), ("hand", 0, 1, -1), ("hand", 0, 1), ("round", 2),
                               ("round",), ("round", 0, 0), ["round", 0], ("round", True), ("hand", 0, True, 0), ("hand", 0, 1, True),
                               ("hand", 2, 0, 0), ("hand", 0, 2, 0), ("letter", 0, 1, 0), ("hand", 0, 1, 0, 0), ("hand", 0, 1.0, 0)):
            raised(BadDeed, post.do, deed)
            raised(BadDeed, post.can_come, deed)
        for deed in (("round", 0), ("hand", 0, 1, 1), ("hand", 0, 1, 10 ** 9)):
            self.assertIs(post.can_come(deed=deed), False)
            raised(NotNow, post.do, deed)
        for choices in (None, [], [-1], [True], "0", [0] * 401, [None], [0.0], 0, {0: 1}):
            self.assertEqual(raised(BadNumber, post.ended, choices).part, "choices")
        self.assertEqual((post.front, post.states, post.known), ((0, 0), (0, 0), (((), ()), ((), ()))))


def slow_short(stepper, kind, net, modulus, deeds):
    """Short letters straight from the words; the number of the first wrong deed, or the triple."""
    post = SlowPost(stepper, kind, net, 10 ** 9)
    late = 0
    for number, deed in enumerate(deeds):
        place = deed[1]
        done = len(post.past[place]) - 1
        if deed[0] == "hand":
            at = beside(kind, len(net), place, deed[2])
            if at is None or deed[3] >= len(post.past[at]):
                return number
            late = max(late, done - deed[3])
            known = post.known[place][deed[2]]
            if done not in known and deed[3] % modulus == done % modulus:
                known[done] = post.past[at][deed[3]]
            elif done + 1 not in known and deed[3] % modulus == (done + 1) % modulus:
                known[done + 1] = post.past[at][deed[3]]
        elif all(done in post.known[place][side] for side, _ in post.sides(place)):
            post.do(deed)
        else:
            return number
    return post.told()[:2] + (late,)


class TestShortPosts(unittest.TestCase):
    def test_against_the_words(self):
        rng = random.Random(709)
        wrong = 0
        for _ in range(400):
            stepper, kind = random_stepper(rng), rng.choice(("ring", "path"))
            size, modulus = rng.randint(1, 4), rng.choice((1, 2, 3, 24))
            net = random_net(rng, size)
            deeds = []
            for _ in range(rng.randint(0, 60)):
                place = rng.randrange(size)
                sides = [side for side in (0, 1) if beside(kind, size, place, side) is not None]
                more = [("hand", place, side, rng.randint(0, 4)) for side in sides] + [("round", place)]
                deed = rng.choice(more)
                if rng.random() < 0.01 or not isinstance(slow_short(stepper, kind, net, modulus, deeds + [deed]), int):
                    deeds.append(deed)
            expected = slow_short(stepper, kind, net, modulus, deeds)
            if isinstance(expected, int):
                wrong += 1
                self.assertEqual(raised(BadDeeds, short_run, stepper, kind, net, modulus, deeds).at, expected)
            else:
                self.assertEqual(short_run(stepper, kind, net, modulus, deeds), expected)
                front, states, late = expected
                if modulus >= late + 2:
                    right = [slow_rounds(stepper, kind, net, done)[place] for place, done in enumerate(front)]
                    self.assertEqual(states, tuple(right))
        self.assertGreater(wrong, 5)

    def test_wrong_run(self):
        for modulus, late in itertools.product(range(1, 25), range(21)):
            told = wrong_run(modulus, late)
            self.assertEqual(told is None, modulus >= late + 2)
            if told is not None:
                stepper, kind, net, deeds = told
                front, states, most = short_run(stepper, kind, net, modulus, deeds)
                self.assertLessEqual(most, late)
                right = tuple(in_rounds(stepper, kind, net, done)[place] for place, done in enumerate(front))
                self.assertNotEqual(states, right)

    def test_by_hand(self):
        stepper = Stepper(2, [0], steps_of(2, lambda left, own, right: right if right < 2 else 1 - own))
        self.assertEqual([in_rounds(stepper, "path", (2, 4), rounds) for rounds in range(5)],
                         [(0, 0), (0, 1), (1, 0), (0, 1), (1, 0)])
        deeds = [("hand", 1, 0, 0), ("round", 1), ("hand", 0, 1, 1), ("round", 0)]
        self.assertEqual(short_run(stepper, "path", (2, 4), 1, deeds), ((1, 1), (1, 1), 0))
        self.assertEqual(raised(BadDeeds, short_run, stepper, "path", (2, 4), 2, deeds).at, 3)

    def test_many_deeds(self):
        rng = random.Random(710)
        stepper = random_stepper(rng)
        net = random_net(rng, 2)
        for modulus in range(1, 25):
            deeds = []
            for number in range(66):
                deeds += [("hand", 0, 1, number), ("hand", 0, 0, number), ("hand", 1, 0, number), ("hand", 1, 1, number),
                          ("round", 0), ("round", 1)]
            front, states, late = short_run(stepper, "ring", net, modulus, deeds)
            self.assertEqual((front, late), ((66, 66), 0))
            self.assertEqual(states, in_rounds(stepper, "ring", net, 66))

    def test_wrong_values(self):
        stepper = random_stepper(random.Random(711))
        for thing in STRANGE + (brute.CHESS, least_table(brute.COLOURS, 0, 3), Program(brute.CHESS, ())):
            self.assertIsNone(raised(BadWork, short_run, thing, None, None, None, None).part)
        for kind in ("Ring", None, 3):
            self.assertEqual(raised(BadNumber, short_run, stepper, kind, None, None, None).part, "kind")
        raised(BadNet, short_run, stepper, "ring", (1, 1), None, None)
        for modulus in (0, 25, True, None, 1.0):
            self.assertEqual(raised(BadNumber, short_run, stepper, "ring", (1,), modulus, None).part, "modulus")
            self.assertEqual(raised(BadNumber, wrong_run, modulus, None).part, "modulus")
        for late in (-1, 21, True, None):
            self.assertEqual(raised(BadNumber, wrong_run, 24, late).part, "late")
        hand = ("hand", 0, 1, 0)
        for deeds in (None, "ab", 3, {}, [hand] * 401):
            self.assertIsNone(raised(BadDeeds, short_run, stepper, "ring", (1,), 1, deeds).at)
        for thing in STRANGE + (("hand", 0, 1, 1), ("round", 0), ("hand", 0, True, 0), ("hand", 1, 0, 0), list(hand)):
            self.assertEqual(raised(BadDeeds, short_run, stepper, "ring", (1,), 1, [hand, thing, None]).at, 1)
        self.assertEqual(short_run(stepper=stepper, kind="ring", net=(1,), modulus=1, deeds=(hand,) * 400)[2], 0)


if __name__ == "__main__":
    unittest.main()
