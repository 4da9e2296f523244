import unittest

from lastseen.boards import played
from lastseen.errors import BadText
from lastseen.notes import read, written
from reckoning import Numbers
from refusals import Refusals

WORDS = ("see", "pass", "ask")
NUMBERS = {str(number): number for number in range(10000)}

# None of these is a row, wherever it stands among others.
NO_ROWS = (
    # No word, an unknown one, a word too many or too few.
    "", "see", "pass", "ask", "5", "sees 3", "se 3", "seee 3", "See 3", "SEE 3", "pass_by 3", "age 0",
    "3 see", "3 3", "see see", "see 3 4", "see 3 see", "see 3 see 3", "see3", "see,3", "see:3", "see-3",
    # Empty words.
    " ", "  ", "see ", "see  3", " see 3", "see 3 ", "  see 3", "see 3  ", " see", "see  ", " 3",
    " see 3 ", "see   3",
    # Numbers of five figures, with needless figures, with signs, with other characters.
    "see 10000", "see 12345", "pass 99999", "see 123456789", "see 00", "see 01", "see 007", "see 0000",
    "pass 0010", "see 00000", "ask 012345", "see -1", "see +1", "see -0", "see +0", "see --1", "see 1-",
    "see 1_0", "see 1.0", "see 1,0", "see 1e3", "see 0x1", "see a", "see 3a", "see a3", "see 3.", "see .3",
    "see three", "see 3;", "see #3", "see (3)", "see '3'", "see ~", "see /", "see :", "see 1/2", "see 1:2",
)

# Beyond what texts may have, these are no rows either.
ODD_ROWS = ("see\t3", "see 3\t", "see 3\r", "see\x0b3", "see 3\x0c", "see\u00a03", "see \u0663", "see \u00b2",
            "see \uff13", "\u017fee 3", "see 3\u2028see 3", "see 3\x1csee 3", "see 3\x85")

GOOD_ROWS = (("see 3", ("see", 3)), ("pass 10", ("pass", 10)), ("ask 0", ("ask", 0)),
             ("see 0", ("see", 0)), ("pass 0", ("pass", 0)), ("pass 1000", ("pass", 1000)),
             ("pass 9999", ("pass", 9999)), ("see 9999", ("see", 9999)), ("ask 7", ("ask", 7)),
             ("ask 10", ("ask", 10)), ("pass 100", ("pass", 100)), ("see 909", ("see", 909)))


def drawn_steps(numbers, many):
    below = (1, 10, 100, 1000, 10000)
    return [(WORDS[numbers.below(3)], numbers.below(below[numbers.below(5)])) for _ in range(many)]


class ThereAndBack(Refusals):
    def test_by_hand(self):
        steps = [("see", 3), ("pass", 10), ("ask", 0)]
        self.assertEqual(written(steps), "see 3\npass 10\nask 0")
        self.assertEqual(read("see 3\npass 10\nask 0"), steps)

    def test_no_steps(self):
        self.assertEqual(written([]), "")
        self.assertEqual(read(""), [])

    def test_one_step(self):
        for row, step in GOOD_ROWS:
            self.assertEqual(written([step]), row)
            self.assertEqual(read(row), [step])

    def test_all_numbers(self):
        for word in WORDS:
            for number in range(10000):
                self.assertEqual(read(written([(word, number)])), [(word, number)])

    def test_drawn_steps(self):
        numbers = Numbers(12)
        for many in range(1, 41):
            for _ in range(20):
                steps = drawn_steps(numbers, many)
                text = written(steps)
                self.assertEqual(text.count("\n"), many - 1)
                self.assertEqual(read(text), steps)
                self.assertEqual(written(read(text)), text)

    def test_forty_steps_and_some_more(self):
        for many in (39, 40, 41, 50, 100):
            steps = [("pass", 1 + at) for at in range(many)]
            self.assertEqual(read(written(steps)), steps)

    def test_values_are_not_looked_at(self):
        self.assertEqual(read("see 8\nask 9999\npass 0\npass 1001"),
                         [("see", 8), ("ask", 9999), ("pass", 0), ("pass", 1001)])

    def test_what_is_read_may_be_played(self):
        told, board = played(("count", 2, 3), 2, read("see 0\npass 4\nask 0\nask 2\npass 0"))
        self.assertEqual((told, board.now()), ([None, 4, (2, 4), "NoThing", "BadMoment"], 4))

    def test_kinds_of_what_is_told(self):
        self.assertIs(written([("see", 3)]).__class__, str)
        steps = read("see 3\npass 10")
        self.assertIs(steps.__class__, list)
        for step in steps:
            self.assertIs(step.__class__, tuple)
            self.assertEqual([part.__class__ for part in step], [str, int])

    def test_the_steps_handed_in_stay(self):
        steps = [("see", 3), ("pass", 10)]
        text = written(steps)
        self.assertEqual(steps, [("see", 3), ("pass", 10)])
        steps.clear()
        self.assertEqual(text, "see 3\npass 10")

    def test_what_is_told_may_be_changed(self):
        for text in ("", "see 3", "see 3\npass 10"):
            first = read(text)
            kept = list(first)
            first.append(("ask", 0))
            self.assertEqual(read(text), kept)


class NoText(Refusals):
    def refused_in(self, row, text):
        self.assertEqual(self.refused(BadText, read, text).row, row, text)

    def test_alone(self):
        for row in NO_ROWS + ODD_ROWS:
            if row != "":
                self.refused_in(0, row)

    def test_among_others(self):
        for row in NO_ROWS + ODD_ROWS:
            self.refused_in(0, row + "\nsee 3")
            self.refused_in(1, "see 3\n" + row)
            self.refused_in(1, "see 3\n" + row + "\nsee 3")
            self.refused_in(3, "see 3\npass 10\nask 0\n" + row + "\nask 0\nask 1")

    def test_the_first_of_several(self):
        for row in NO_ROWS:
            for other in NO_ROWS:
                self.refused_in(0, row + "\n" + other)
                self.refused_in(2, "ask 0\nask 0\n" + row + "\nask 0\n" + other)

    def test_each_row(self):
        rows = ["pass 1"] * 40
        for bad in range(40):
            self.refused_in(bad, "\n".join(rows[:bad] + ["pass 01"] + rows[bad + 1:]))

    def test_line_ends(self):
        self.refused_in(0, "\n")
        self.refused_in(0, "\n\n")
        self.refused_in(0, "\nsee 3")
        self.refused_in(1, "see 3\n")
        self.refused_in(1, "see 3\n\n")
        self.refused_in(1, "see 3\n\nask 0")
        self.refused_in(2, "see 3\nask 0\n")
        self.refused_in(0, "see 3\r\nask 0")

    def test_a_row_between_good_ones_is_told_again_and_again(self):
        for _ in range(3):
            self.refused_in(1, "see 3\nsee\nask 0")
        self.assertEqual(read("see 3\nask 0"), [("see", 3), ("ask", 0)])

    def test_every_sign_in_every_place(self):
        signs = [chr(code) for code in range(32, 127)]
        good = "pass 10"
        for at in range(len(good) + 1):
            for sign in signs:
                self.one_sign_more(good[:at] + sign + good[at:])
                self.one_sign_more(good[:at] + sign + good[at + 1:])

    def one_sign_more(self, row):
        """Held against all rows, written out: the words and the numbers from 0 to 9999."""
        word, _, number = row.partition(" ")
        if word in WORDS and number in NUMBERS:
            self.assertEqual(read(row), [(word, NUMBERS[number])])
        else:
            self.refused_in(0, row)


if __name__ == "__main__":
    unittest.main()
