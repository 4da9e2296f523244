import unittest

from lastseen.errors import BadMark, BadMoment, BadRule
from lastseen.rules import aged, seen
from lastseen.spans import off, reach, span
from reckoning import (FAR, Numbers, all_rules, end_of, last_of, marks_of, slowly_aged,
                       slowly_seen, some_rules)
from refusals import Refusals

BOUNDS = {"count": (6, 20), "shift": (10, 20), "rough": (3,)}

# Each takes a rule as the first thing that is handed in.
WITH_RULE = (lambda rule: aged(rule, 0, 0, 0), lambda rule: span(rule, 0, 0), off, reach)


class Rules(Refusals):
    def refused_everywhere(self, rule):
        for call in WITH_RULE:
            self.refused(BadRule, call, rule)

    def test_all_rules_are_taken(self):
        self.assertEqual(len(all_rules()), 6 * 20 + 10 * 20 + 3)
        for rule in all_rules():
            self.assertEqual(aged(rule, 0, 0, 0), 0)
            self.assertGreaterEqual(reach(rule), 0)
            self.assertGreaterEqual(off(rule), 0)
            self.assertEqual(len(span(rule, 0, 0)), 2)

    def test_one_below_and_one_beyond_the_bounds(self):
        for kind, bounds in BOUNDS.items():
            for place, most in enumerate(bounds):
                for number in (0, most + 1):
                    for rest in (1, bounds[-1]):
                        numbers = [rest] * len(bounds)
                        numbers[place] = number
                        self.refused_everywhere((kind, *numbers))

    def test_the_bounds_themselves(self):
        for kind, bounds in BOUNDS.items():
            self.assertEqual(aged((kind, *bounds), 1, 5, 5), 1)
            self.assertEqual(aged((kind,) + (1,) * len(bounds), 1, 5, 5), 1)

    def test_the_bits_of_another_kind_are_not_taken(self):
        for rule in (("count", 10, 1), ("count", 7, 1), ("rough", 6), ("rough", 10)):
            self.refused_everywhere(rule)

    def test_far_off_numbers(self):
        for far in (-1, -20, 21 + 64, 10 ** 9, -10 ** 9, 10 ** 30, 10 ** 5000, -10 ** 5000):
            for kind, bounds in BOUNDS.items():
                for place in range(len(bounds)):
                    numbers = [1] * len(bounds)
                    numbers[place] = far
                    self.refused_everywhere((kind, *numbers))

    def test_a_number_more_and_a_number_fewer(self):
        for rule in (("count",), ("count", 1), ("count", 1, 1, 1),
                     ("shift",), ("shift", 1), ("shift", 1, 1, 1),
                     ("rough",), ("rough", 1, 1), ("rough", 1, 1, 1)):
            self.refused_everywhere(rule)

    def test_another_kind(self):
        for kind in ("", "Count", "COUNT", "count ", " count", "counts", "coun", "age", "shifted", "1"):
            for numbers in ((), (1,), (1, 1), (1, 1, 1)):
                self.refused_everywhere((kind, *numbers))


class Seen(unittest.TestCase):
    def test_by_count_and_rough_the_mark_is_0(self):
        for rule in all_rules():
            if rule[0] != "shift":
                self.assertEqual({seen(rule, mark) for mark in marks_of(rule)}, {0})

    def test_by_shift_the_highest_bit_is_set_and_the_others_stay(self):
        self.assertEqual([seen(("shift", 2, 1), mark) for mark in range(8)], [4, 5, 6, 7, 4, 5, 6, 7])
        for bits in range(1, 11):
            rule = ("shift", bits, 3)
            for mark in marks_of(rule):
                self.assertEqual(seen(rule, mark), slowly_seen(rule, mark))

    def test_seen_twice_is_as_once(self):
        for rule in some_rules():
            for mark in marks_of(rule):
                self.assertEqual(seen(rule, seen(rule, mark)), seen(rule, mark))


class Aged(Refusals):
    def test_by_hand(self):
        self.assertEqual(aged(("count", 2, 3), 0, 0, 2), 0)
        self.assertEqual(aged(("count", 2, 3), 0, 0, 3), 1)
        self.assertEqual(aged(("count", 2, 3), 0, 3, 5), 0)
        self.assertEqual(aged(("count", 2, 3), 0, 2, 6), 2)
        self.assertEqual(aged(("count", 2, 3), 0, 2, 100), 3)
        self.assertEqual(aged(("shift", 3, 2), 13, 0, 1), 13)
        self.assertEqual(aged(("shift", 3, 2), 13, 1, 2), 6)
        self.assertEqual(aged(("shift", 3, 2), 13, 1, 7), 1)
        self.assertEqual(aged(("shift", 3, 2), 13, 1, 8), 0)
        # By rough 1 is one more in even moments, 2 in multiples of 4.
        self.assertEqual([aged(("rough", 2), 0, 0, end) for end in range(6)], [0, 1, 2, 2, 3, 3])
        self.assertEqual([aged(("rough", 2), 0, 1, end) for end in range(1, 6)], [0, 1, 1, 2, 2])
        self.assertEqual(aged(("rough", 3), 6, 32, 63), 6)
        self.assertEqual(aged(("rough", 3), 6, 32, 64), 7)

    def test_each_mark_from_each_moment_on(self):
        for rule in some_rules():
            if last_of(rule) > 63:
                continue
            for begin in list(range(0, 24)) + [63, 64, 97]:
                for mark in marks_of(rule):
                    for end in (begin, begin + 1, begin + 2, begin + 5, begin + 20, begin + 133):
                        self.assertEqual(aged(rule, mark, begin, end), slowly_aged(rule, mark, begin, end),
                                         (rule, mark, begin, end))

    def test_all_moments_by_rough(self):
        for bits in (1, 2, 3):
            for mark in range(2 ** bits):
                for begin in range(0, 66):
                    for end in range(begin, begin + 132):
                        self.assertEqual(aged(("rough", bits), mark, begin, end),
                                         slowly_aged(("rough", bits), mark, begin, end))

    def test_many_rules_marks_and_moments(self):
        numbers = Numbers(1)
        rules = all_rules()
        for _ in range(20000):
            rule = rules[numbers.below(len(rules))]
            mark = numbers.below(last_of(rule) + 1)
            begin = numbers.below(300)
            end = begin + numbers.below(300)
            self.assertEqual(aged(rule, mark, begin, end), slowly_aged(rule, mark, begin, end),
                             (rule, mark, begin, end))

    def test_far_moments(self):
        numbers = Numbers(2)
        for rule in all_rules():
            for many in (0, 1, 2, 19, 20, 21, 64, 200):
                mark = numbers.below(last_of(rule) + 1)
                for end in (FAR, FAR - numbers.below(100), FAR // 2 + numbers.below(1000)):
                    self.assertEqual(aged(rule, mark, end - many, end),
                                     slowly_aged(rule, mark, end - many, end), (rule, mark, end, many))

    def test_from_0_to_the_last_moment(self):
        for rule in all_rules():
            for mark in (0, 1, last_of(rule) // 2, last_of(rule)):
                self.assertEqual(aged(rule, mark, 0, FAR), end_of(rule))
                self.assertEqual(aged(rule, mark, FAR, FAR), mark)

    def test_in_two_parts(self):
        numbers = Numbers(3)
        for rule in all_rules():
            for _ in range(20):
                mark = numbers.below(last_of(rule) + 1)
                begin = numbers.below(100)
                between = begin + numbers.below(70)
                end = between + numbers.below(70)
                self.assertEqual(aged(rule, aged(rule, mark, begin, between), between, end),
                                 aged(rule, mark, begin, end))

    def test_both_moments_alike(self):
        for rule in some_rules():
            for moment in (0, 1, 2, 3, 7, 20, 32, 64, 140, FAR - 1, FAR):
                for mark in marks_of(rule):
                    self.assertEqual(aged(rule, mark, moment, moment), mark)

    def test_the_end_stays_the_end(self):
        for rule in all_rules():
            for begin, end in ((0, 0), (0, 1), (0, 20), (5, 64), (1, 4000), (63, 64), (0, FAR), (FAR, FAR)):
                self.assertEqual(aged(rule, end_of(rule), begin, end), end_of(rule))

    def test_moment_0_ages_nothing(self):
        for rule in all_rules():
            for mark in (0, 1, last_of(rule)):
                self.assertEqual(aged(rule, mark, 0, 0), mark)

    def test_asked_again_the_same(self):
        first = [aged(rule, 1, 3, 30) for rule in all_rules()]
        self.assertEqual([aged(rule, 1, 3, 30) for rule in all_rules()], first)

    def test_bad_marks(self):
        for rule in all_rules():
            for mark in (-1, -10 ** 9, -10 ** 5000, last_of(rule) + 1, last_of(rule) + 2, 10 ** 9, 10 ** 5000):
                self.refused(BadMark, aged, rule, mark, 0, 5)
            self.assertEqual(aged(rule, last_of(rule), 0, 0), last_of(rule))

    def test_bad_moments(self):
        for rule in all_rules():
            for begin, end in ((-1, 0), (-1, -1), (-5, 5), (0, -1), (0, FAR + 1), (FAR, FAR + 1),
                               (FAR + 1, FAR + 1), (FAR + 1, 0), (1, 0), (FAR, FAR - 1), (FAR, 0),
                               (-10 ** 5000, 0), (0, 10 ** 5000)):
                self.refused(BadMoment, aged, rule, 0, begin, end)

    def test_what_is_handed_in_first_is_refused_first(self):
        self.refused(BadRule, aged, ("count", 0, 1), -1, -1, -2)
        self.refused(BadRule, aged, ("rough", 4), 99, 5, 4)
        self.refused(BadMark, aged, ("count", 1, 1), 2, -1, -2)
        self.refused(BadMark, aged, ("shift", 1, 1), 4, 5, 4)
        self.refused(BadMark, aged, ("rough", 1), -1, 0, FAR + 1)
        self.refused(BadMoment, aged, ("count", 1, 1), 1, 5, 4)


if __name__ == "__main__":
    unittest.main()
