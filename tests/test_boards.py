import unittest

from lastseen.boards import Board, played
from lastseen.errors import BadMoment, BadRule, BadThings, NoThing
from lastseen.spans import span
from reckoning import Numbers, SlowBoard, all_rules, end_of, some_rules
from refusals import Refusals

NO_RULES = (("count", 0, 1), ("count", 7, 1), ("count", 1, 0), ("count", 1, 21), ("shift", 11, 1),
            ("shift", 1, 21), ("rough", 0), ("rough", 4), ("rough", 1, 1), ("count", 1), ("age", 1, 1))
NO_MANY = (0, -1, -1000, 1001, 2000, 10 ** 9, 10 ** 5000, -10 ** 5000)


def drawn_steps(numbers, things, many):
    """Sees and passes, so that some things are seen often and others hardly ever."""
    longest = (2, 5, 20, 70, 400, 1000)[numbers.below(6)]
    favourites = 1 + numbers.below(things)
    steps = []
    for _ in range(many):
        if numbers.below(2) == 0:
            steps.append(("see", numbers.below(favourites if numbers.below(4) else things)))
        else:
            steps.append(("pass", 1 + numbers.below(longest)))
    return steps


def do(board, step):
    word, number = step
    return board.see(number) if word == "see" else board.pass_by(number)


def shown(board):
    return (board.marks(), board.now(), board.ages(), board.oldest())


class Boards(Refusals):
    def same(self, board, slow):
        self.assertEqual(board.marks(), slow.marks)
        self.assertEqual(board.now(), slow.now)
        self.assertEqual(board.ages(), [span(slow.rule, slow.now, mark) for mark in slow.marks])

    def followed(self, rule, things, steps, behind_each):
        """Does the steps to a board and to a slow one."""
        board, slow = Board(rule, things), SlowBoard(rule, things)
        behind_each(board, slow)
        for step in steps:
            told = do(board, step)
            do(slow, step)
            self.assertEqual(told, None if step[0] == "see" else slow.now)
            behind_each(board, slow)


class StepByStep(Boards):
    def test_by_hand(self):
        board = Board(("count", 2, 3), 3)
        self.assertEqual((board.marks(), board.now()), ([3, 3, 3], 0))
        self.assertEqual(board.ages(), [(None, None)] * 3)
        self.assertIsNone(board.see(1))
        self.assertEqual(board.pass_by(4), 4)
        self.assertIsNone(board.see(0))
        self.assertEqual((board.marks(), board.now()), ([0, 1, 3], 4))
        self.assertEqual(board.ages(), [(0, 1), (2, 4), (None, None)])
        self.assertEqual(board.pass_by(6), 10)
        self.assertEqual((board.marks(), board.now()), ([2, 3, 3], 10))
        self.assertEqual(board.ages(), [(5, 7), (8, None), (8, None)])

    def test_by_hand_by_shift(self):
        board = Board(("shift", 2, 3), 2)
        self.assertEqual(board.marks(), [0, 0])
        board.see(0)
        self.assertEqual(board.marks(), [4, 0])
        board.see(0)
        self.assertEqual(board.marks(), [4, 0])
        board.pass_by(3)
        board.see(0)
        self.assertEqual(board.marks(), [6, 0])
        board.pass_by(5)
        self.assertEqual(board.marks(), [3, 0])
        self.assertEqual(board.ages(), [(3, 5), (None, None)])

    def test_by_hand_by_rough(self):
        board = Board(("rough", 2), 2)
        self.assertEqual(board.marks(), [3, 3])
        board.see(1)
        self.assertEqual([board.pass_by(1) for _ in range(4)], [1, 2, 3, 4])
        self.assertEqual(board.marks(), [3, 3])
        board.see(1)
        board.pass_by(3)
        self.assertEqual(board.marks(), [3, 2])

    def test_the_beginning(self):
        for rule in all_rules():
            for things in (1, 2, 8):
                board = Board(rule, things)
                self.assertEqual(board.marks(), [end_of(rule)] * things)
                self.assertEqual(board.now(), 0)
                self.assertEqual(board.ages(), [(None, None)] * things)

    def test_drawn_steps(self):
        numbers = Numbers(5)
        for rule in some_rules():
            for things in range(1, 9):
                steps = drawn_steps(numbers, things, 1 + numbers.below(60))
                self.followed(rule, things, steps, self.same)

    def test_short_passes_by_all_rules(self):
        numbers = Numbers(6)
        for rule in all_rules():
            steps = [(("see", "pass")[numbers.below(2)], 1 + numbers.below(3)) for _ in range(60)]
            self.followed(rule, 4, steps, self.same)

    def test_the_true_one_is_never_out_of_the_ages(self):
        numbers = Numbers(7)
        for rule in some_rules():
            for things in (1, 3, 8):
                for _ in range(5):
                    self.followed(rule, things, drawn_steps(numbers, things, 60), self.holds)

    def holds(self, board, slow):
        for (least, most), then in zip(board.ages(), slow.last_seen):
            if then is None:
                self.assertIsNone(most)
            else:
                self.assertLessEqual(least, slow.now - then)
                self.assertTrue(most is None or slow.now - then <= most)

    def test_a_pass_in_two_parts(self):
        for rule in all_rules():
            one, other = Board(rule, 1), Board(rule, 1)
            one.see(0)
            other.see(0)
            one.pass_by(25)
            other.pass_by(7)
            other.pass_by(18)
            self.assertEqual(shown(one), shown(other))

    def test_the_longest_passes(self):
        board = Board(("count", 6, 20), 8)
        for turn in range(1, 61):
            self.assertEqual(board.pass_by(1000), 1000 * turn)
        self.assertEqual(board.now(), 60000)
        self.assertEqual(board.marks(), [63] * 8)

    def test_looking_changes_nothing(self):
        for rule in some_rules():
            board = Board(rule, 3)
            do(board, ("see", 1))
            do(board, ("pass", 3))
            self.assertEqual(shown(board), shown(board))

    def test_kinds_of_what_is_told(self):
        for rule in some_rules():
            board = Board(rule, 3)
            board.see(1)
            self.assertIs(board.pass_by(2).__class__, int)
            self.assertIs(board.now().__class__, int)
            for told in (board.marks(), board.oldest()):
                self.assertIs(told.__class__, list)
                self.assertEqual({part.__class__ for part in told}, {int})
            self.assertIs(board.ages().__class__, list)
            self.assertEqual({part.__class__ for part in board.ages()}, {tuple})


class Apart(Boards):
    def test_what_is_told_may_be_changed(self):
        board = Board(("count", 3, 2), 3)
        board.see(2)
        board.pass_by(3)
        before = shown(board)
        board.marks()[0] = 1
        board.marks().clear()
        board.ages()[1] = (0, 0)
        board.ages().clear()
        board.oldest().append(9)
        board.oldest().clear()
        self.assertEqual(shown(board), before)

    def test_what_was_told_stays_as_it_was(self):
        board = Board(("shift", 3, 2), 2)
        told = shown(board)
        kept = (list(told[0]), told[1], list(told[2]), list(told[3]))
        board.see(0)
        board.pass_by(5)
        board.see(1)
        self.assertEqual(told, kept)

    def test_two_boards_do_not_meet(self):
        rule = ("rough", 2)
        one, other = Board(rule, 2), Board(rule, 2)
        before = shown(other)
        one.see(0)
        one.pass_by(1)
        self.assertEqual(shown(other), before)
        other.see(1)
        self.assertEqual((one.marks(), one.now()), ([1, 3], 1))
        self.assertEqual((other.marks(), other.now()), ([3, 0], 0))


class BoardRefusals(Boards):
    def test_how_many_things(self):
        for rule in some_rules():
            for things in range(1, 9):
                self.assertEqual(len(Board(rule, things).marks()), things)
            for things in (0, -1, -8, 9, 10, 100, 10 ** 5000, -10 ** 5000):
                self.refused(BadThings, Board, rule, things)

    def test_no_rules(self):
        for rule in NO_RULES:
            for things in (1, 8, 0, 9, -1):
                self.refused(BadRule, Board, rule, things)

    def test_no_thing(self):
        for things in range(1, 9):
            board = Board(("shift", 2, 2), things)
            for thing in range(things):
                board.see(thing)
            self.assertEqual(board.marks(), [4] * things)
            board.pass_by(2)
            before = shown(board)
            for thing in (-1, -things, -things - 1, things, things + 1, 8, 10 ** 5000, -10 ** 5000):
                self.refused(NoThing, board.see, thing)
            self.assertEqual(shown(board), before)

    def test_how_long_a_pass_is(self):
        for rule in some_rules():
            board = Board(rule, 2)
            board.see(0)
            before = shown(board)
            for many in NO_MANY:
                self.refused(BadMoment, board.pass_by, many)
            self.assertEqual(shown(board), before)
            self.assertEqual(board.pass_by(1), 1)
            self.assertEqual(board.pass_by(1000), 1001)
            self.assertEqual(board.pass_by(999), 2000)

    def test_a_board_goes_on_behind_a_refusal(self):
        board, other = Board(("count", 2, 2), 2), Board(("count", 2, 2), 2)
        for step in (("see", 0), ("pass", 3), ("see", 1), ("pass", 2)):
            self.refused(NoThing, board.see, 2)
            self.refused(BadMoment, board.pass_by, 0)
            do(board, step)
            do(other, step)
            self.assertEqual(shown(board), shown(other))


def surely_older(own, other):
    """By the document's words; a thing that may never have been seen has none older."""
    if other[1] is None:
        return False
    return own == (None, None) or own[0] > other[1]


def oldest_by(ages):
    return [thing for thing in range(len(ages))
            if not any(surely_older(ages[other], ages[thing])
                       for other in range(len(ages)) if other != thing)]


class Oldest(Boards):
    def test_by_hand(self):
        board = Board(("count", 3, 2), 3)
        self.assertEqual(board.oldest(), [0, 1, 2])
        board.see(0)
        self.assertEqual(board.oldest(), [1, 2])
        board.pass_by(3)
        board.see(1)
        self.assertEqual(board.oldest(), [2])
        board.see(2)
        self.assertEqual(board.ages(), [(2, 3), (0, 1), (0, 1)])
        self.assertEqual(board.oldest(), [0])
        board.see(0)
        self.assertEqual(board.oldest(), [0, 1, 2])

    def test_things_with_the_same_mark_are_both_told(self):
        for first, last in ((0, 1), (1, 0)):
            board = Board(("rough", 2), 2)
            board.pass_by(2)
            board.see(first)
            board.pass_by(1)
            board.see(last)
            self.assertEqual(board.oldest(), [first])
            board.pass_by(3)
            self.assertEqual(board.ages(), [(2, 5), (2, 5)])
            self.assertEqual(board.oldest(), [0, 1])

    def test_never_seen_things_are_all_told(self):
        for rule in all_rules():
            board = Board(rule, 3)
            self.assertEqual(board.oldest(), [0, 1, 2])
            board.see(1)
            self.assertEqual(board.oldest(), [0, 2])
            board.see(0)
            self.assertEqual(board.oldest(), [2])
            board.see(2)
            self.assertEqual(board.oldest(), [0, 1, 2])

    def test_one_thing_alone(self):
        for rule in some_rules():
            board = Board(rule, 1)
            for step in (("pass", 1), ("see", 0), ("pass", 30), ("pass", 1000), ("see", 0)):
                self.assertEqual(board.oldest(), [0])
                do(board, step)
            self.assertEqual(board.oldest(), [0])

    def test_a_thing_that_came_to_the_end_may_be_one_never_seen(self):
        board = Board(("count", 2, 2), 3)
        board.see(0)
        board.see(1)
        board.pass_by(100)
        board.see(1)
        self.assertEqual(board.oldest(), [0, 2])

    def test_by_the_ages_alone(self):
        numbers = Numbers(8)
        for rule in all_rules():
            for things in (2, 4, 8):
                self.followed(rule, things, drawn_steps(numbers, things, 60), self.told_by_ages)

    def told_by_ages(self, board, slow):
        self.assertEqual(board.oldest(), oldest_by(board.ages()))

    def test_the_truly_oldest_is_among_them(self):
        numbers = Numbers(9)
        for rule in some_rules():
            for things in range(1, 9):
                for _ in range(3):
                    steps = drawn_steps(numbers, things, 1 + numbers.below(60))
                    self.followed(rule, things, steps, self.has_the_truly_oldest)

    def test_the_truly_oldest_where_all_were_seen(self):
        numbers = Numbers(10)
        for rule in all_rules():
            things = 2 + numbers.below(7)
            steps = [("see", thing) for thing in range(things)]
            steps += drawn_steps(numbers, things, 60 - things)
            self.followed(rule, things, steps, self.has_the_truly_oldest)

    def has_the_truly_oldest(self, board, slow):
        oldest = board.oldest()
        self.assertEqual(oldest, sorted(set(oldest)))
        for thing in slow.truly_oldest():
            self.assertIn(thing, oldest)


def slowly_played(rule, things, steps):
    """What a board tells of the steps, and the board."""
    board = Board(rule, things)
    told = []
    for word, number in steps:
        try:
            if word == "ask":
                told.append(board.ages()[number] if number >= 0 else "NoThing")
            else:
                told.append(do(board, (word, number)))
        except IndexError:
            told.append("NoThing")
        except ValueError as refusal:
            told.append(refusal.__class__.__name__)
    return told, board


class Played(Boards):
    def test_by_hand(self):
        steps = [("ask", 0), ("see", 0), ("ask", 0), ("pass", 4), ("ask", 0), ("ask", 1), ("see", 2),
                 ("ask", 2), ("ask", -1), ("see", -1), ("pass", 0), ("pass", 1001), ("pass", 6),
                 ("ask", 0)]
        told, board = played(("count", 2, 3), 2, steps)
        self.assertEqual(told, [(None, None), None, (0, 0), 4, (2, 4), (None, None), "NoThing",
                                "NoThing", "NoThing", "NoThing", "BadMoment", "BadMoment", 10,
                                (8, None)])
        self.assertEqual((board.marks(), board.now()), ([3, 3], 10))

    def test_no_steps(self):
        for rule in all_rules():
            told, board = played(rule, 3, [])
            self.assertEqual(told, [])
            self.assertEqual(shown(board), shown(Board(rule, 3)))

    def test_drawn_steps(self):
        numbers = Numbers(11)
        for rule in all_rules():
            for things in (1, 2, 5, 8):
                steps = self.drawn(numbers, things)
                told, board = played(rule, things, steps)
                reckoned, other = slowly_played(rule, things, steps)
                self.assertEqual(told, reckoned)
                self.assertEqual(shown(board), shown(other))

    def drawn(self, numbers, things):
        """Steps of all words, with some among them that are refused."""
        longest = (3, 30, 1100)[numbers.below(3)]
        steps = []
        for _ in range(numbers.below(51)):
            word = ("see", "pass", "ask")[numbers.below(3)]
            most = longest if word == "pass" else things + 1
            steps.append((word, numbers.below(most + 1) - (word != "pass")))
        return steps

    def test_each_refusal_has_the_name_of_its_class(self):
        for rule in some_rules():
            for things in range(1, 9):
                steps = [("see", things), ("ask", things), ("see", -1), ("ask", -1), ("pass", 0),
                         ("pass", -1), ("pass", 1001)]
                told, board = played(rule, things, steps)
                self.assertEqual(told, ["NoThing"] * 4 + ["BadMoment"] * 3)
                self.assertEqual(shown(board), shown(Board(rule, things)))

    def test_the_steps_handed_in_stay_and_are_not_kept(self):
        steps = [("see", 0), ("pass", 3), ("ask", 0), ("see", 5)]
        kept = list(steps)
        told, board = played(("count", 3, 2), 2, steps)
        self.assertEqual(steps, kept)
        before = shown(board)
        steps.clear()
        self.assertEqual((told, shown(board)), ([None, 3, (2, 3), "NoThing"], before))

    def test_what_is_told_may_be_changed(self):
        steps = [("see", 0), ("pass", 3), ("ask", 0)]
        told, board = played(("count", 3, 2), 2, steps)
        before = shown(board)
        told.clear()
        self.assertEqual(shown(board), before)
        self.assertEqual(played(("count", 3, 2), 2, steps)[0], [None, 3, (2, 3)])

    def test_the_board_goes_on_by_itself(self):
        steps = [("see", 0), ("pass", 3)]
        told, board = played(("shift", 3, 2), 2, steps)
        other = played(("shift", 3, 2), 2, steps)[1]
        before = shown(other)
        self.assertEqual(board.pass_by(4), 7)
        board.see(1)
        self.assertEqual((board.marks(), board.now()), ([1, 8], 7))
        self.assertEqual(told, [None, 3])
        self.assertEqual(shown(other), before)

    def test_kinds_of_what_is_told(self):
        told = played(("rough", 2), 1, [("see", 0)])
        self.assertIs(told.__class__, tuple)
        self.assertIs(told[0].__class__, list)
        self.assertIs(told[1].__class__, Board)

    def test_refused_as_a_board(self):
        for steps in ([], [("see", 9)], [("pass", 0)]):
            for rule in NO_RULES:
                for things in (1, 0, 9):
                    self.refused(BadRule, played, rule, things, steps)
            for rule in some_rules():
                for things in (0, -1, 9):
                    self.refused(BadThings, played, rule, things, steps)


if __name__ == "__main__":
    unittest.main()
