import unittest

from lastseen.errors import BadMark, BadMoment, BadRule
from lastseen.rules import aged
from lastseen.spans import off, reach, span
from reckoning import (FAR, Numbers, all_rules, end_of, last_of, longest_to_end, marks_of,
                       one_moment, slow_reach, slowly_aged, slowly_seen, some_rules, spans_from)
from refusals import Refusals


class Spans(Refusals):
    def same_spans(self, rule, now, reckoned):
        told = {mark: span(rule, now, mark) for mark in marks_of(rule)}
        self.assertEqual(told, reckoned, (rule, now))


class Span(Spans):
    def test_by_hand(self):
        self.assertEqual(span(("count", 2, 3), 10, 0), (0, 1))
        self.assertEqual(span(("count", 2, 3), 10, 1), (2, 4))
        self.assertEqual(span(("count", 2, 3), 10, 2), (5, 7))
        self.assertEqual(span(("count", 2, 3), 10, 3), (8, None))
        self.assertEqual(span(("shift", 2, 3), 10, 4), (0, 1))
        self.assertEqual(span(("shift", 2, 3), 10, 7), (0, 1))
        self.assertEqual(span(("shift", 2, 3), 10, 3), (2, 4))
        self.assertEqual(span(("shift", 2, 3), 10, 1), (5, 7))
        self.assertEqual(span(("shift", 2, 3), 10, 0), (8, None))
        self.assertEqual([span(("rough", 2), 4, mark) for mark in range(4)],
                         [(0, 0), (1, 1), (2, 3), (4, None)])
        self.assertEqual([span(("rough", 1), 4, mark) for mark in range(2)], [(0, 0), (1, None)])

    def test_moment_0(self):
        for rule in all_rules():
            for mark in (0, 1, last_of(rule) // 2, last_of(rule)):
                just_seen = mark == slowly_seen(rule, mark)
                self.assertEqual(span(rule, 0, mark), (0, 0) if just_seen else (None, None))

    def test_all_early_moments(self):
        for rule in some_rules():
            for now, reckoned in spans_from(rule, 0, 0, min(longest_to_end(rule) + 2 * 20, 170)):
                self.same_spans(rule, now, reckoned)

    def test_early_moments_of_a_rule_with_many_marks(self):
        rule = ("count", 6, 20)
        for now, reckoned in spans_from(rule, 0, 0, longest_to_end(rule) + 10):
            if now % 10 in (0, 9):
                self.same_spans(rule, now, reckoned)

    def test_moments_in_the_middle_and_far_ones(self):
        for rule in some_rules():
            longest = longest_to_end(rule)
            for last in (FAR // 3, FAR):
                for now, reckoned in spans_from(rule, last - longest - 21, last - 21, last):
                    self.same_spans(rule, now, reckoned)

    def test_all_rests_of_far_moments_by_rough(self):
        for bits in (1, 2, 3):
            rule = ("rough", bits)
            for now, reckoned in spans_from(rule, FAR - 300, FAR - 140, FAR):
                self.same_spans(rule, now, reckoned)

    def test_both_ends_may_be_so(self):
        for rule in all_rules():
            if last_of(rule) > 127:
                continue
            for now in (0, 1, 5, 20, 64, 257, FAR):
                for mark in {0, 1, last_of(rule) // 3, last_of(rule)}:
                    for ago in span(rule, now, mark):
                        if ago is not None:
                            self.assertTrue(self.may_be(rule, now, mark, ago), (rule, now, mark, ago))

    def may_be(self, rule, now, mark, ago):
        marks = {slowly_seen(rule, ahead) for ahead in marks_of(rule)}
        return mark in {slowly_aged(rule, fresh, now - ago, now) for fresh in marks}

    def test_the_true_one_is_never_out_of_it(self):
        numbers = Numbers(4)
        for rule in all_rules():
            for start in (0, FAR - 120):
                self.follow_a_thing(rule, start, 120, numbers)

    def follow_a_thing(self, rule, start, many, numbers):
        mark = end_of(rule)
        last = None
        rarely = 1 + numbers.below(40)
        for now in range(start, start + many + 1):
            mark = one_moment(rule, mark, now)
            if numbers.below(rarely) == 0:
                mark = slowly_seen(rule, mark)
                last = now
            least, most = span(rule, now, mark)
            if last is None:
                self.assertIsNone(most)
            else:
                self.assertLessEqual(least, now - last)
                self.assertTrue(most is None or now - last <= most, (rule, now, mark))

    def test_most_is_none_for_the_end(self):
        for rule in all_rules():
            for now in (0, 1, 20, 64, 300, 1280, FAR):
                least, most = span(rule, now, end_of(rule))
                self.assertIsNone(most)
                if now >= longest_to_end(rule):
                    self.assertGreater(least, reach(rule))

    def test_the_end_where_nothing_can_have_come_to_it(self):
        self.assertEqual(span(("count", 2, 5), 14, 3), (None, None))
        self.assertEqual(span(("count", 2, 5), 15, 3), (11, None))
        self.assertEqual(span(("shift", 2, 5), 14, 0), (None, None))
        self.assertEqual(span(("shift", 2, 5), 15, 0), (11, None))
        self.assertEqual(span(("rough", 2), 3, 3), (None, None))
        self.assertEqual(span(("rough", 2), 4, 3), (4, None))

    def test_by_shift_what_is_ahead_may_be_anything(self):
        for low in range(8):
            self.assertEqual(span(("shift", 3, 4), 2, 8 + low), (0, 2))
        for low in range(4):
            self.assertEqual(span(("shift", 3, 4), 6, 4 + low), (3, 6))

    def test_asked_again_the_same(self):
        for rule in all_rules():
            self.assertEqual(span(rule, 70, 1), span(rule, 70, 1))

    def test_it_is_a_tuple(self):
        for rule in all_rules():
            for mark in (0, 1):
                self.assertIsInstance(span(rule, 0, mark), tuple)
                self.assertIsInstance(span(rule, 500, mark), tuple)

    def test_bad_moments(self):
        for rule in all_rules():
            for now in (-1, -64, FAR + 1, 10 ** 5000, -10 ** 5000):
                self.refused(BadMoment, span, rule, now, 0)
            self.assertEqual(len(span(rule, FAR, 0)), 2)

    def test_bad_marks(self):
        for rule in all_rules():
            for mark in (-1, -64, last_of(rule) + 1, 10 ** 9, 10 ** 5000, -10 ** 5000):
                self.refused(BadMark, span, rule, 50, mark)

    def test_what_is_handed_in_first_is_refused_first(self):
        self.refused(BadRule, span, ("count", 7, 1), -1, -1)
        self.refused(BadRule, span, ("shift", 1, 21), FAR + 1, 4)
        self.refused(BadMoment, span, ("count", 1, 1), -1, -1)
        self.refused(BadMoment, span, ("rough", 1), FAR + 1, 2)
        self.refused(BadMark, span, ("rough", 1), FAR, 2)


class Off(Spans):
    def test_by_count_and_shift(self):
        for rule in all_rules():
            if rule[0] != "rough":
                self.assertEqual(off(rule), rule[2] - 1)

    def test_against_all_rests(self):
        for rule in some_rules():
            if longest_to_end(rule) <= 200:
                self.assertEqual(off(rule), self.slow_off(rule), rule)

    def slow_off(self, rule):
        worst = 0
        for _, reckoned in spans_from(rule, 0, 0, longest_to_end(rule) + 70):
            for mark in marks_of(rule):
                least, most = reckoned[mark]
                if most is not None:
                    worst = max(worst, most - least)
        return worst

    def test_by_rough(self):
        self.assertEqual([off(("rough", bits)) for bits in (1, 2, 3)], [0, 3, 63])

    def test_it_is_the_same_again(self):
        self.assertEqual(off(("rough", 3)), off(("rough", 3)))


class Reach(Spans):
    def test_by_count_and_shift(self):
        for rule in all_rules():
            if rule[0] == "count":
                self.assertEqual(reach(rule), (2 ** rule[1] - 2) * rule[2])
            if rule[0] == "shift":
                self.assertEqual(reach(rule), rule[1] * rule[2])

    def test_against_all_rests(self):
        for rule in some_rules():
            if longest_to_end(rule) <= 400 and last_of(rule) < 64:
                self.assertEqual(reach(rule), slow_reach(rule), rule)

    def test_by_rough(self):
        self.assertEqual([reach(("rough", bits)) for bits in (1, 2, 3)], [0, 3, 63])

    def test_no_end_within_it_and_once_the_end_just_beyond(self):
        for rule in all_rules():
            turn = 64 if rule[0] == "rough" else rule[2]
            fresh = slowly_seen(rule, end_of(rule))
            within = [aged(rule, fresh, begin, begin + reach(rule)) for begin in range(turn)]
            beyond = [aged(rule, fresh, begin, begin + reach(rule) + 1) for begin in range(turn)]
            self.assertNotIn(end_of(rule), within)
            self.assertIn(end_of(rule), beyond)

    def test_it_is_the_same_again(self):
        self.assertEqual(reach(("rough", 3)), reach(("rough", 3)))


if __name__ == "__main__":
    unittest.main()
