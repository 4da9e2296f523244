import unittest
from functools import lru_cache

from lastseen.errors import BadBounds, BadRule, NoRule
from lastseen.fewest import fewest
from lastseen.spans import off, reach
from reckoning import end_of, mark_of_seen_once, moments_without_end, slowly_seen
from refusals import Refusals

KINDS = ("count", "shift")
MOST_BITS = {"count": 6, "shift": 10}
ALL_BOUNDS = [(far, near) for far in range(1, 1001) for near in range(20)]

# Slow, and asked for the same over and over again.
mark_of = lru_cache(None)(mark_of_seen_once)


@lru_cache(None)
def reach_of(rule):
    mark = slowly_seen(rule, end_of(rule))
    return min(moments_without_end(rule, mark, begin) for begin in range(rule[2]))


def fewest_bits(kind, far, near):
    """None if no rule does."""
    for bits in range(1, MOST_BITS[kind] + 1):
        if reach_of((kind, bits, near + 1)) >= far:
            return bits
    return None


def with_rule(kind):
    return [(far, near) for far, near in ALL_BOUNDS if fewest_bits(kind, far, near) is not None]


class TheRule(Refusals):
    def test_by_hand(self):
        self.assertEqual(fewest("count", 10, 2)[0], ("count", 3, 3))
        self.assertEqual(fewest("count", 6, 2)[0], ("count", 2, 3))
        self.assertEqual(fewest("count", 7, 2)[0], ("count", 3, 3))
        self.assertEqual(fewest("shift", 10, 2)[0], ("shift", 4, 3))
        self.assertEqual(fewest("shift", 3, 2)[0], ("shift", 1, 3))
        self.assertEqual(fewest("shift", 4, 2)[0], ("shift", 2, 3))

    def test_all_bounds(self):
        for kind in KINDS:
            for far, near in ALL_BOUNDS:
                bits = fewest_bits(kind, far, near)
                if bits is None:
                    self.refused(NoRule, fewest, kind, far, near)
                else:
                    self.assertEqual(fewest(kind, far, near)[0], (kind, bits, near + 1))

    def test_what_bits_hold_and_one_beyond(self):
        for near in range(20):
            for bits in range(1, 7):
                self.at_the_edge("count", bits, near, (2 ** bits - 2) * (near + 1))
            for bits in range(1, 11):
                self.at_the_edge("shift", bits, near, bits * (near + 1))

    def at_the_edge(self, kind, bits, near, held):
        if 1 <= held <= 1000:
            self.assertEqual(fewest(kind, held, near)[0], (kind, bits, near + 1))
        if held < 1000:
            if bits == MOST_BITS[kind]:
                self.refused(NoRule, fewest, kind, held + 1, near)
            else:
                self.assertEqual(fewest(kind, held + 1, near)[0], (kind, bits + 1, near + 1))

    def test_the_ends_of_the_bounds(self):
        self.assertEqual(fewest("count", 1, 0)[0], ("count", 2, 1))
        self.assertEqual(fewest("count", 1, 19)[0], ("count", 2, 20))
        self.assertEqual(fewest("count", 1000, 19)[0], ("count", 6, 20))
        self.refused(NoRule, fewest, "count", 1000, 0)
        self.assertEqual(fewest("shift", 1, 0)[0], ("shift", 1, 1))
        self.assertEqual(fewest("shift", 1, 19)[0], ("shift", 1, 20))
        self.assertEqual(fewest("shift", 200, 19)[0], ("shift", 10, 20))
        self.refused(NoRule, fewest, "shift", 201, 19)
        self.refused(NoRule, fewest, "shift", 1000, 0)

    def test_with_one_bit_fewer_there_is_none(self):
        for kind in KINDS:
            for far, near in with_rule(kind):
                bits = fewest(kind, far, near)[0][1] - 1
                if bits >= 1:
                    found = [step for step in range(1, 21)
                             if reach((kind, bits, step)) >= far and off((kind, bits, step)) <= near]
                    self.assertEqual(found, [], (kind, far, near))


class ThePapers(Refusals):
    def test_all_bounds(self):
        for kind in KINDS:
            for far, near in with_rule(kind):
                rule, papers = fewest(kind, far, near)
                self.assertIsInstance(papers, list)
                if rule[1] == 1:
                    self.assertEqual(len(papers), 1)
                else:
                    self.assertEqual(len(papers), 2)
                    self.shows_the_end_too_soon(papers[0], rule, far)
                self.shows_two_alike(papers[-1], rule, near)

    def shows_the_end_too_soon(self, paper, rule, far):
        self.assertIsInstance(paper, tuple)
        lesser, one, other, moment = paper
        self.assertEqual(lesser, (rule[0], rule[1] - 1, rule[2]))
        self.assertIsNone(other)
        self.assertTrue(0 <= one <= moment <= 10 ** 6, paper)
        self.assertLessEqual(moment - one, far)
        self.assertEqual(mark_of(lesser, one, moment), end_of(lesser), paper)

    def shows_two_alike(self, paper, rule, near):
        self.assertIsInstance(paper, tuple)
        coarser, one, other, moment = paper
        self.assertEqual(coarser, (rule[0], rule[1], rule[2] + 1))
        self.assertTrue(0 <= other < one <= moment <= 10 ** 6, paper)
        self.assertGreater(one - other, near)
        self.assertEqual(mark_of(coarser, one, moment), mark_of(coarser, other, moment), paper)
        self.assertNotEqual(mark_of(coarser, one, moment), end_of(coarser), paper)

    def test_bits_of_1_have_one_paper_only(self):
        for near in range(20):
            for far in (1, near + 1):
                rule, papers = fewest("shift", far, near)
                self.assertEqual((rule[1], len(papers)), (1, 1))
            self.assertEqual(len(fewest("shift", near + 2, near)[1]), 2)
            self.assertEqual(len(fewest("count", 1, near)[1]), 2)

    def test_the_step_of_the_last_paper_may_be_21(self):
        for kind in KINDS:
            for far in (1, 20, 21, 200):
                rule, papers = fewest(kind, far, 19)
                self.assertEqual(papers[-1][0], (kind, rule[1], 21))

    def test_the_same_again_though_what_was_told_is_changed(self):
        for kind in KINDS:
            for far, near in ((1, 0), (10, 2), (100, 19)):
                told = fewest(kind, far, near)
                again = fewest(kind, far, near)
                self.assertEqual(again, told)
                kept = (told[0], list(told[1]))
                told[1].clear()
                self.assertEqual(again, kept)
                again[1].append("more")
                self.assertEqual(fewest(kind, far, near), kept)

    def test_kinds_of_what_is_told(self):
        for kind in KINDS:
            told = fewest(kind, 20, 3)
            self.assertIsInstance(told, tuple)
            self.assertIsInstance(told[0], tuple)
            for paper in told[1]:
                self.assertEqual({part.__class__ for part in paper[0][1:]}, {int})
                self.assertTrue(all(part.__class__ is int for part in paper[1:] if part is not None))


class Refused(Refusals):
    def test_another_kind(self):
        for kind in ("rough", "", "Count", "count ", " shift", "counts", "shif", "age"):
            for far, near in ((10, 2), (0, -1), (1, 0)):
                self.refused(BadRule, fewest, kind, far, near)

    def test_bounds_beyond(self):
        for kind in KINDS:
            for far in (0, -1, -1000, 1001, 2000, 10 ** 9, 10 ** 5000, -10 ** 5000):
                for near in (0, 5, 19, 20, -1):
                    self.refused(BadBounds, fewest, kind, far, near)
            for near in (-1, -19, 20, 21, 1000, 10 ** 5000, -10 ** 5000):
                for far in (1, 5, 1000):
                    self.refused(BadBounds, fewest, kind, far, near)

    def test_what_is_handed_in_first_is_refused_first(self):
        self.refused(BadRule, fewest, "rough", 0, 20)
        self.refused(BadRule, fewest, "rough", 1000, 0)
        self.refused(BadBounds, fewest, "count", 1001, 0)
        self.refused(BadBounds, fewest, "count", 1000, -1)


if __name__ == "__main__":
    unittest.main()
