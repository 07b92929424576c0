"""Promise 92: mendings."""

import random
import unittest

from roundwright.drafts import fills, is_fair
from roundwright.errors import BadDraft, BadNumber, BadProblem, NotNow
from roundwright.mends import mended, mended_whole, reach_at
from roundwright.problems import PathProblem, RingProblem, is_right
from tests import brute
from tests.brute import STRANGE, raised


def bare_places(draft):
    return [at for at, label in enumerate(draft) if label is None]


def random_fair(rng, problem, size, share=0.8):
    """A fair draft, many of whose houses have labels."""
    for _ in range(200):
        draft = tuple(rng.randrange(problem.labels) if rng.random() < share else None for _ in range(size))
        if is_fair(problem, draft):
            return draft
    return (None,) * size


class TestMends(unittest.TestCase):
    def check(self, problem, draft, place):
        expected = brute.slow_mended(problem, draft, place)
        reach = brute.slow_reach(problem, draft, place)
        self.assertEqual(reach_at(problem, draft, place), reach)
        if expected is None:
            raised(NotNow, mended, problem, draft, place)
        else:
            self.assertEqual(mended(problem, draft, place), expected)
        return reach

    def test_against_all_mendings(self):
        rng = random.Random(41)
        reaches = []
        for problem in brute.random_problems(42, 70, 3) + brute.tiny_problems():
            for size in range(1, 6):
                drafts = [draft for draft in brute.fair_drafts(problem, size) if None in draft]
                for draft in rng.sample(drafts, min(len(drafts), 12)):
                    for place in bare_places(draft):
                        reaches.append(self.check(problem, draft, place))
        self.assertLessEqual({None, 0, 1, 2}, set(reaches))

    def test_against_all_mendings_of_longer_drafts(self):
        rng = random.Random(43)
        reaches = []
        for problem in brute.random_problems(44, 60, 3):
            for size in (6, 7):
                draft = random_fair(rng, problem, size)
                for place in bare_places(draft)[:2]:
                    reaches.append(self.check(problem, draft, place))
        self.assertLessEqual({None, 0, 1, 2}, set(reaches))
        self.assertGreater(max(reach for reach in reaches if reach is not None), 2)

    def test_rings_of_one_and_two(self):
        loop = RingProblem(2, [(1, 1), (0, 1)])
        self.assertEqual(reach_at(loop, (None,), 0), 0)
        self.assertEqual(mended(loop, (None,), 0), (1,))
        self.assertIsNone(reach_at(brute.CHESS, (None,), 0))
        raised(NotNow, mended, brute.CHESS, (None,), 0)
        self.assertEqual(mended(brute.CHESS, (None, 1), 0), (0, 1))
        self.assertEqual(mended(loop, (None, 1), 0), (1, 1))
        one = PathProblem(2, [], [0, 1], [1])
        self.assertEqual(mended(one, (None,), 0), (1,))

    def test_none_stays_none(self):
        path = PathProblem(2, [(0, 1), (1, 0)], [0], [0])
        self.assertEqual(mended(path, (None, None, None), 1), (None, 0, None))
        self.assertIsNone(reach_at(brute.CHESS, (0, 1, None), 2))
        self.assertEqual(reach_at(brute.CHESS_PATH, (0, 1, None, 1, None, 1), 2), 0)

    def test_the_fewest_changes_before_the_least_labels(self):
        # Within a reach of 1 one change beside the place is enough, though lesser labels stand with more changes.
        problem = RingProblem(4, [(0, 0), (0, 3), (3, 1), (1, 3), (3, 3), (3, 2), (2, 3), (0, 1), (1, 2)])
        rng = random.Random(45)
        for _ in range(30):
            draft = random_fair(rng, problem, 6)
            for place in bare_places(draft)[:1]:
                self.check(problem, draft, place)

    def test_labels_are_told_from_ahead(self):
        # Around the ring: the house ahead of place 0 is the last one, and its label is compared first.
        problem = brute.TWO_AND_THREE
        for size in range(3, 8):
            for draft in [draft for draft in brute.fair_drafts(problem, size) if draft.count(None) == 1]:
                self.check(problem, draft, draft.index(None))

    def test_long_drafts(self):
        line = tuple(range(12)) * 33
        self.assertEqual(reach_at(brute.LINE_12, line[:395] + (None,), 395), 0)
        self.assertIsNone(reach_at(brute.LINE_12, line + (None,), 396))
        self.assertIsNone(reach_at(brute.WIELANDT_12, (None,), 0))
        draft = line[:390] + (None,)
        reach = reach_at(brute.WIELANDT_12, draft, 390)
        found = mended(brute.WIELANDT_12, draft, 390)
        self.assertTrue(is_right(brute.WIELANDT_12, found))
        changed = [at for at in range(391) if found[at] != draft[at]]
        self.assertEqual(max(brute.distance(brute.WIELANDT_12, 391, at, 390) for at in changed), reach)
        self.assertEqual(mended(brute.COLOURS, (0, 1) * 199 + (0, None), 399), (0, 1) * 200)
        self.assertEqual(mended(brute.COLOURS, (0, 1) * 199 + (None,), 398), (0, 1) * 199 + (2,))

    def test_long_reaches(self):
        # With one house without a label all that is within a reach may be taken off and filled anew.
        seen = set()
        for labels, size in [(labels, size) for labels in (3, 4, 5, 6, 7) for size in range(3, 48)]:
            pairs = [(at, (at + 1) % labels) for at in range(labels)] + [(labels - 1, 1)]
            line = tuple(at % labels for at in range(size))
            every = list(range(labels))
            for problem in (RingProblem(labels, pairs), PathProblem(labels, pairs, every, [1])):
                for place in (0, size // 2, size - 1):
                    draft = line[:place] + (None,) + line[place + 1:]
                    if brute.is_ring(problem):
                        draft = line[size - place - 1:-1] + (None,) + line[:size - place - 1]
                        place = draft.index(None)
                    if not is_fair(problem, draft):
                        continue
                    reach = None
                    for least in range(size):
                        near = [brute.distance(problem, size, at, place) <= least for at in range(size)]
                        bare = tuple(None if close else label for close, label in zip(near, draft))
                        if fills(problem, bare):
                            reach = least
                            break
                    self.assertEqual(reach_at(problem, draft, place), reach)
                    seen.add(reach)
        self.assertLessEqual({None, 30} | set(range(12)), seen)

    def test_what_stands_farther_off_changes_nothing(self):
        rng = random.Random(46)
        tried = 0
        for problem in brute.random_problems(47, 300, 3):
            draft = random_fair(rng, problem, 9)
            for place in bare_places(draft)[:1]:
                reach = reach_at(problem, draft, place)
                if reach is None or 2 * reach + 3 > 9 or not brute.is_ring(problem):
                    continue
                near = [(place + step) % 9 for step in range(-reach - 1, reach + 2)]
                other = [None] * 3 + [draft[at] for at in near] + [None] * 2
                self.assertEqual(reach_at(problem, tuple(other), reach + 4), reach)
                changed = mended(problem, tuple(other), reach + 4)
                self.assertEqual(changed[3:3 + len(near)], tuple(mended(problem, draft, place)[at] for at in near))
                tried += 1
        self.assertGreater(tried, 20)


class TestWhole(unittest.TestCase):
    def test_house_by_house(self):
        rng = random.Random(48)
        ended = 0
        for problem in brute.random_problems(49, 80, 4):
            draft = random_fair(rng, problem, rng.randint(1, 9), 0.5)
            step, reaches = draft, []
            while None in step and reach_at(problem, step, step.index(None)) is not None:
                reaches.append(reach_at(problem, step, step.index(None)))
                step = mended(problem, step, step.index(None))
            if None in step:
                raised(NotNow, mended_whole, problem, draft)
            else:
                found = mended_whole(problem, draft)
                self.assertEqual(found, (step, reaches))
                self.assertIs(type(found), tuple)
                self.assertIs(type(found[1]), list)
                self.assertTrue(is_right(problem, found[0]))
                ended += 1
        self.assertGreater(ended, 20)

    def test_the_greatest_drafts(self):
        bare = (None,) * 400
        self.assertEqual(mended_whole(brute.WHOLE_12, bare), ((0,) * 400, [0] * 400))
        line, reaches = mended_whole(brute.COLOURS, bare)
        self.assertTrue(is_right(brute.COLOURS, line))
        self.assertEqual(len(reaches), 400)
        line, reaches = mended_whole(brute.WIELANDT_12, bare)
        self.assertTrue(is_right(brute.WIELANDT_12, line))
        self.assertEqual(len(reaches), 400)
        raised(NotNow, mended_whole, brute.EMPTY_12, bare)
        raised(NotNow, mended_whole, brute.LINE_12, bare)
        self.assertEqual(mended_whole(brute.LINE_12, (None,) * 396)[1], [0] * 396)
        whole = (0, 1) * 200
        self.assertEqual(mended_whole(brute.CHESS, whole), (whole, []))


class TestWrong(unittest.TestCase):
    def test_problems(self):
        for thing in STRANGE:
            self.assertIsNone(raised(BadProblem, reach_at, thing, None, None).part)
            self.assertIsNone(raised(BadProblem, mended, thing, None, None).part)
            self.assertIsNone(raised(BadProblem, mended_whole, thing, None).part)

    def test_drafts(self):
        for draft in ((), [None], (0, 0, None), (0,), (2, None), (True, None), None, (None,) * 401, (1, None, 1, 1)):
            raised(BadDraft, reach_at, brute.CHESS, draft, None)
            raised(BadDraft, mended, brute.CHESS, draft, None)
            raised(BadDraft, mended_whole, brute.CHESS, draft)

    def test_places(self):
        for call in (reach_at, mended):
            for place in (-1, 3, 1, True, False, None, 0.0, "0"):
                self.assertEqual(raised(BadNumber, call, brute.CHESS, (None, 0, None), place).part, "place")
            self.assertEqual(raised(BadNumber, call, brute.CHESS, (0, 1), 0).part, "place")


if __name__ == "__main__":
    unittest.main()
