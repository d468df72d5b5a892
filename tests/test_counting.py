"""Counting blocks, and sharing them among peers (chapter 19)."""

import itertools
import random
import time
import unittest

from folderkin.content import split
from folderkin.counting import judge_share, must_come, share
from folderkin.pulling import missing
from tests.rigs import A, B, BA, BB, BC, BD, C, D, store_of, unchanged, wants
from tests.samples import all_of
from tests.test_judging import OTHERS

OFFERS = {256: (1, 2), 257: (1,), 258: (1,), 259: (2, 3)}
PLAN = ((256, 2), (257, 1), (258, 1), (259, 2))


class MustCome(unittest.TestCase):
    def assert_come(self, store, entries, expected):
        before = all_of(store)
        found = unchanged(self, must_come, store, entries)
        self.assertEqual((found, all_of(store), store.done()), (expected, before, 0))
        self.assertIs(type(found), list)

    def test_no_entries(self):
        self.assert_come(store_of({"x": A}), [], [])
        self.assert_come(store_of(), [wants([])], [])

    def test_files_and_attic(self):
        store = store_of({"x": A + [1]}, (), [("q", (), B)])
        self.assert_come(store, [wants(A + B + C)], [BC])
        self.assert_come(store, [wants(D + A + C + [1])], [BC, BD])
        self.assert_come(store, [wants(A + B)], [])
        # A block counts as a whole: one byte of it does not do.
        self.assert_come(store, [wants([2])], [258])

    def test_ascending(self):
        self.assert_come(store_of(), [wants(D + B + C + A)], [BA, BB, BC, BD])
        self.assert_come(store_of(), [wants(B), wants(A, name="b")], [BA, BB])
        self.assert_come(store_of(), [wants(A + [7])], [256 + 7, BA])

    def test_the_same_block_twice(self):
        self.assert_come(store_of(), [wants(A + A + B + A)], [BA, BB])
        self.assert_come(store_of(), [wants(A + B), wants(B + A, name="b"), wants(A, name="c")], [BA, BB])

    def test_temporary_files(self):
        # The front of the own one is there already; that of another one does not help.
        store = store_of({}, temps={"a": A + B, "b": C + C})
        self.assert_come(store, [wants(A + B + C + D)], [BC, BD])
        self.assert_come(store, [wants(B + A)], [BA, BB])
        self.assert_come(store, [wants(C, name="b")], [])
        self.assert_come(store, [wants(A, name="b")], [BA])
        self.assert_come(store, [wants(A + C), wants(C + B, name="b")], [BB, BC])
        self.assert_come(store, [wants(A), wants(C, name="b")], [])

    def test_as_told(self):
        rng = random.Random(1)
        blocks = (A, B, C, D, [1], [2])
        for _ in range(200):
            content = lambda most: [byte for _ in range(rng.randint(0, most)) for byte in rng.choice(blocks[:4])]
            store = store_of(
                {"x": content(2)}, (), [("q", (), content(1))],
                {name: content(2) for name in "ab" if rng.random() < 0.5})
            entries = [wants(content(4), name=rng.choice("ab")) for _ in range(rng.randint(0, 3))]
            expected = set()
            for value in entries:
                expected |= set(missing(store, value))
            self.assertEqual(must_come(store, entries), sorted(expected))


def plans_of(offers):
    blocks = sorted(offers)
    for peers in itertools.product(*[offers[block] for block in blocks]):
        yield tuple(zip(blocks, peers))


def most_of(plan):
    peers = [peer for _, peer in plan]
    return max([peers.count(peer) for peer in peers], default=0)


def shows(offers, most, blocks):
    """Point 19.3."""
    if most == 0:
        return blocks == ()
    peers = {peer for block in blocks for peer in offers[block]}
    return len(blocks) > (most - 1) * len(peers)


def random_peers(rng, peers, most):
    return tuple(sorted(rng.sample(range(1, peers + 1), rng.randint(1, most))))


def random_offers(rng, count, peers=4):
    return {256 + at: random_peers(rng, peers, 3) for at in rng.sample(range(100), count)}


class Sharing(unittest.TestCase):
    def assert_share(self, offers):
        """The paper is right, by all plans in order."""
        most, plan, blocks = found = unchanged(self, share, offers)
        self.assertEqual([type(part) for part in found], [int, tuple, tuple])
        plans = list(plans_of(offers))
        least = min(most_of(one) for one in plans)
        self.assertEqual(most, least)
        self.assertEqual(plan, min(one for one in plans if most_of(one) == least))
        self.assertEqual(blocks, tuple(sorted(set(blocks))))
        self.assertTrue(set(blocks) <= set(offers))
        self.assertTrue(shows(offers, most, blocks))
        self.assertEqual(share(offers), found)
        self.assertEqual(share(dict(reversed(list(offers.items())))), found)
        self.assertIs(judge_share(offers, found), True)
        return found

    def test_no_blocks(self):
        self.assertEqual(self.assert_share({}), (0, (), ()))

    def test_one_block(self):
        self.assertEqual(self.assert_share({300: (4,)}), (1, ((300, 4),), (300,)))
        self.assertEqual(self.assert_share({300: (2, 4, 9)}), (1, ((300, 2),), (300,)))

    def test_the_example(self):
        self.assertEqual(self.assert_share(OFFERS)[:2], (2, PLAN))

    def test_one_peer(self):
        for count in range(1, 8):
            offers = {256 + at: (3,) for at in range(count)}
            most, _, blocks = self.assert_share(offers)
            self.assertEqual((most, blocks), (count, tuple(range(256, 256 + count))))

    def test_others_must_move(self):
        # The last blocks have one peer alone, so the first ones go elsewhere, one by one.
        offers = {256: (1, 2), 257: (2, 3), 258: (3, 4), 259: (1,), 260: (4, 5)}
        self.assertEqual(self.assert_share(offers)[:2], (1, ((256, 2), (257, 3), (258, 4), (259, 1), (260, 5))))

    def test_the_first_plan(self):
        offers = {256: (1, 2, 3), 257: (1, 2, 3), 258: (1, 2, 3), 259: (1, 2, 3)}
        self.assertEqual(self.assert_share(offers)[1], ((256, 1), (257, 1), (258, 2), (259, 2)))

    def test_up_to_seven_blocks(self):
        rng = random.Random(2)
        mosts = {}
        for _ in range(400):
            found = self.assert_share(random_offers(rng, rng.randint(0, 7)))
            mosts[found[0]] = True
        self.assertEqual(sorted(mosts)[:5], [0, 1, 2, 3, 4])

    def test_40_blocks_and_nine_peers(self):
        rng = random.Random(3)
        begun = time.monotonic()
        for many in (1, 2, 3, 5, 9):
            for _ in range(4):
                offers = {256 + 7 * at: random_peers(rng, 9, many) for at in range(40)}
                found = share(offers)
                self.assertIs(judge_share(offers, found), True)
                self.assertEqual(share(offers), found)
        offers = {256 + at: tuple(range(1, 10)) for at in range(40)}
        self.assertEqual(share(offers)[:2], (5, tuple((256 + at, at // 5 + 1) for at in range(40))))
        # All blocks have one peer, but for one.
        offers = {256 + at: (1, 2) if at < 20 else (1,) for at in range(40)}
        self.assertEqual(share(offers)[:2], (20, tuple((256 + at, 2 if at < 20 else 1) for at in range(40))))
        self.assertLess(time.monotonic() - begun, 30)

    def test_any_blocks(self):
        offers = {split(content)[0]: (1, 2) for content in (A, B, [1], [1, 2], [255] * 4)}
        self.assertEqual(self.assert_share(offers)[0], 3)


class JudgingShares(unittest.TestCase):
    def judged(self, paper, offers=OFFERS):
        return unchanged(self, judge_share, offers, paper)

    def test_papers(self):
        self.assertIs(self.judged(share(OFFERS)), True)
        self.assertIs(self.judged((2, PLAN, (257, 258))), True)
        self.assertIs(self.judged((0, (), ()), {}), True)

    def test_another_plan_of_the_same_most(self):
        for plan in plans_of(OFFERS):
            for most in range(5):
                told = most_of(plan) == 2 == most
                self.assertIs(self.judged((most, plan, (257, 258))), told, (most, plan))

    def test_plans_that_are_none(self):
        for plan in (
                (), PLAN[:-1], PLAN[1:], PLAN + ((260, 1),), PLAN + (PLAN[-1],), PLAN[::-1], (PLAN[0],) * 4,
                ((256, 3),) + PLAN[1:], ((256, 0),) + PLAN[1:], ((255, 2),) + PLAN[1:], ((256,),) + PLAN[1:],
                ((256.0, 2),) + PLAN[1:], ((256, 2.0),) + PLAN[1:], ((256, 2, 2),) + PLAN[1:], (256, 2) + PLAN[1:], ((2, 256),) + PLAN[1:], (None,) + PLAN[1:],
                ((256, "2"),) + PLAN[1:], ((256, (1, 2)),) + PLAN[1:], (("256", 2),) + PLAN[1:],
                ((256, None),) + PLAN[1:],
                (((256,), 2),) + PLAN[1:], (([256], 2),) + PLAN[1:], ((256, [2]),) + PLAN[1:]):
            self.assertIs(self.judged((2, plan, (257, 258))), False, plan)

    def test_numbers(self):
        for most in (0, 1, 3, 4, -2, -1, "2", None, (2,), [2], 2.0):
            self.assertIs(self.judged((most, PLAN, (257, 258))), False, most)

    def test_blocks(self):
        everything = (256, 257, 258, 259)
        for size in range(5):
            for blocks in itertools.permutations(everything, size):
                told = blocks == tuple(sorted(blocks)) and shows(OFFERS, 2, blocks)
                self.assertIs(self.judged((2, PLAN, blocks)), told, blocks)
        for blocks in (
                (257, 257), (257, 258, 258), (257, 258, 260), (255, 257, 258), (258, 257), ("257", 258), (None,),
                ((257, 258),),
                (257, [258]), (257, "258"), (257.0, 258), ()):
            self.assertIs(self.judged((2, PLAN, blocks)), False, blocks)

    def test_no_blocks(self):
        for paper in ((0, (), (256,)), (1, (), ()), (0, ((256, 1),), ()), (0, [], ()), (0, (), []), (-1, (), ()),
                (0, (), None),
                      (False, (), ())):
            self.assertIs(self.judged(paper, {}), False, paper)
        self.assertIs(self.judged((0, (), ())), False)

    def test_lists_in_place_of_tuples(self):
        for paper in (
                [2, PLAN, (257, 258)], (2, list(PLAN), (257, 258)), (2, PLAN, [257, 258]),
                (2, tuple(list(pair) for pair in PLAN), (257, 258)), (2, PLAN[:3] + ([259, 2],), (257, 258))):
            self.assertIs(self.judged(paper), False, paper)

    def test_truth_values(self):
        offers = {256: (1,), 257: (2,)}
        self.assertIs(self.judged((1, ((256, 1), (257, 2)), (256,)), offers), True)
        self.assertIs(self.judged((True, ((256, 1), (257, 2)), (256,)), offers), False)
        self.assertIs(self.judged((1, ((256, True), (257, 2)), (256,)), offers), False)

    def test_other_values(self):
        for paper in OTHERS + ((2, PLAN), (2, PLAN, (257, 258), 0), (PLAN, 2, (257, 258)), {2: PLAN}, "202"):
            self.assertIs(self.judged(paper), False, paper)

    def test_drawn_ones(self):
        rng = random.Random(4)
        told = {True: 0, False: 0}
        for _ in range(300):
            offers = random_offers(rng, rng.randint(1, 4), 3)
            plan = rng.choice(list(plans_of(offers)))
            most = rng.choice([most_of(plan), most_of(plan), rng.randint(0, 4)])
            blocks = tuple(sorted(rng.sample(sorted(offers), rng.randint(0, len(offers)))))
            expected = most == most_of(plan) and shows(offers, most, blocks)
            self.assertIs(self.judged((most, plan, blocks), offers), expected)
            told[expected] += 1
            if expected:
                self.assertEqual(share(offers)[0], most)
        self.assertGreater(min(told.values()), 50)
