"""Points 3 to 6: desks, what they propose, settle and hand over."""

import itertools
import unittest

from onebell import errors
from onebell.desk import Desk
from onebell.errors import BadMark, BellError, NotOpen, Twice

GREAT = 10 ** 30
REFUSALS = ("BadCount", "NoHand", "NoLetter", "NoMail", "Twice", "NotOpen", "BadMark", "NoNote")


class PlainDesk:
    """The document's points 3 to 6 once more, written down as plainly as can be."""

    def __init__(self, hand):
        self.hand, self.now, self.row, self.rows = hand, 0, [], []

    def propose(self, letter):
        if letter in self.row or letter in [row[1] for row in self.rows]:
            return "Twice"
        self.now += 1
        self.rows.append([(self.now, self.hand), letter, False])
        return self.now, self.hand

    def settle(self, letter, mark):
        found = [row for row in self.rows if row[1:] == [letter, False]]
        if not found:
            return "NotOpen"
        if mark < found[0][0]:
            return "BadMark"
        found[0][0], found[0][2] = mark, True
        self.now = max(self.now, mark[0])
        behind = len(self.row)
        # min gives the first of like ones, and rows stand as they were met.
        while self.rows and min(self.rows, key=lambda row: row[0])[2]:
            least = min(self.rows, key=lambda row: row[0])
            self.rows.remove(least)
            self.row.append(least[1])
        return self.row[behind:]

    def waiting(self):
        return [tuple(row) for row in sorted(self.rows, key=lambda row: row[0])]


def state(desk):
    return desk.waiting(), desk.handed(), desk.clock()


class DeskCase(unittest.TestCase):
    def check_refused(self, desk, kind, act, *told):
        """It is refused with just this kind, and nothing is changed by that."""
        before = state(desk)
        with self.assertRaises(kind) as held:
            act(*told)
        self.check_kind(held.exception, kind)
        self.assertEqual(state(desk), before)

    def check_kind(self, refusal, kind):
        self.assertIsInstance(refusal, BellError)
        self.assertIsInstance(refusal, ValueError)
        for name in REFUSALS:
            other = getattr(errors, name)
            self.assertEqual(isinstance(refusal, other), other is kind, name)

    def check_rows(self, desk, rows):
        self.assertEqual(desk.waiting(), rows)
        for row in desk.waiting():
            self.assertIs(type(row), tuple)
            self.assertIs(type(row[0]), tuple)
            self.assertIs(type(row[2]), bool)


class Propose(DeskCase):
    def test_a_new_desk(self):
        desk = Desk(0)
        self.assertEqual(desk.clock(), 0)
        self.assertIs(type(desk.clock()), int)
        self.assertEqual(desk.waiting(), [])
        self.assertEqual(desk.handed(), [])

    def test_each_proposed_mark_is_the_clock_one_on_and_the_hand(self):
        for hand in (0, 1, 7, 39, GREAT):
            with self.subTest(hand=hand):
                desk = Desk(hand)
                for count, letter in enumerate((5, 0, 12, 3, GREAT), 1):
                    mark = desk.propose(letter)
                    self.assertEqual(mark, (count, hand))
                    self.assertIs(type(mark), tuple)
                    self.assertEqual(desk.clock(), count)

    def test_letters_wait_open_with_the_proposed_mark(self):
        desk = Desk(2)
        for letter in (5, 0, 12):
            desk.propose(letter)
        self.check_rows(desk, [((1, 2), 5, False), ((2, 2), 0, False), ((3, 2), 12, False)])
        self.assertEqual(desk.handed(), [])

    def test_desks_are_by_themselves(self):
        one, other = Desk(0), Desk(0)
        one.propose(4)
        self.assertEqual(state(other), ([], [], 0))
        self.assertEqual(other.propose(4), (1, 0))
        one.settle(4, (9, 0))
        self.assertEqual(other.clock(), 1)
        self.assertEqual(other.handed(), [])

    def test_twice_while_it_waits_open(self):
        desk = Desk(1)
        desk.propose(0)
        desk.propose(6)
        self.check_refused(desk, Twice, desk.propose, 0)
        self.check_refused(desk, Twice, desk.propose, 6)
        self.assertEqual(desk.propose(1), (3, 1))

    def test_twice_while_it_waits_settled(self):
        desk = Desk(1)
        desk.propose(0)
        desk.propose(6)
        desk.settle(6, (4, 0))
        self.check_refused(desk, Twice, desk.propose, 6)
        self.assertEqual(desk.propose(1), (5, 1))

    def test_twice_when_it_was_handed_over(self):
        desk = Desk(1)
        desk.propose(0)
        self.assertEqual(desk.settle(0, (1, 1)), [0])
        self.check_refused(desk, Twice, desk.propose, 0)
        self.assertEqual(desk.propose(1), (2, 1))

    def test_a_refused_letter_that_was_never_met_may_be_met_later(self):
        desk = Desk(0)
        self.check_refused(desk, NotOpen, desk.settle, 3, (1, 0))
        self.assertEqual(desk.propose(3), (1, 0))


class Settle(DeskCase):
    def test_by_the_proposed_mark_itself(self):
        desk = Desk(3)
        desk.propose(8)
        told = desk.settle(8, (1, 3))
        self.assertEqual(told, [8])
        self.assertIs(type(told), list)
        self.assertEqual(state(desk), ([], [8], 1))

    def test_by_a_greater_number(self):
        for mark in ((2, 0), (2, 3), (2, 5), (9, 0), (GREAT, 0)):
            with self.subTest(mark=mark):
                desk = Desk(3)
                desk.propose(8)
                self.assertEqual(desk.settle(8, mark), [8])
                self.assertEqual(state(desk), ([], [8], mark[0]))

    def test_by_the_same_number_and_a_greater_hand(self):
        desk = Desk(3)
        desk.propose(8)
        self.assertEqual(desk.settle(8, (1, 4)), [8])
        self.assertEqual(desk.clock(), 1)

    def test_by_a_lesser_mark(self):
        desk = Desk(3)
        desk.propose(7)
        desk.propose(8)
        for mark in ((2, 2), (2, 0), (1, 3), (1, 4), (1, 39), (1, GREAT)):
            with self.subTest(mark=mark):
                self.check_refused(desk, BadMark, desk.settle, 8, mark)
        self.check_refused(desk, BadMark, desk.settle, 7, (1, 2))
        self.assertEqual(desk.settle(8, (2, 3)), [])
        self.assertEqual(desk.settle(7, (1, 3)), [7, 8])

    def test_what_counts_is_the_proposed_mark_not_the_clock(self):
        desk = Desk(0)
        desk.propose(0)
        desk.propose(1)
        desk.settle(1, (50, 0))
        self.assertEqual(desk.settle(0, (1, 0)), [0, 1])
        self.assertEqual(desk.clock(), 50)

    def test_the_mark_stands_in_the_place_of_the_proposed_one(self):
        desk = Desk(1)
        for letter in (0, 1, 2):
            desk.propose(letter)
        desk.settle(1, (7, 2))
        self.check_rows(desk, [((1, 1), 0, False), ((3, 1), 2, False), ((7, 2), 1, True)])
        desk.settle(2, (3, 1))
        self.check_rows(desk, [((1, 1), 0, False), ((3, 1), 2, True), ((7, 2), 1, True)])

    def test_the_clock_when_the_number_is_greater(self):
        desk = Desk(1)
        desk.propose(0)
        desk.settle(0, (6, 0))
        self.assertEqual(desk.clock(), 6)
        self.assertEqual(desk.propose(1), (7, 1))

    def test_the_clock_when_the_number_is_the_same_or_less(self):
        desk = Desk(1)
        for letter in (0, 1, 2):
            desk.propose(letter)
        desk.settle(0, (2, 0))
        self.assertEqual(desk.clock(), 3)
        desk.settle(1, (3, 5))
        self.assertEqual(desk.clock(), 3)
        self.assertEqual(desk.propose(3), (4, 1))

    def test_not_open_for_a_letter_that_was_never_met(self):
        desk = Desk(2)
        self.check_refused(desk, NotOpen, desk.settle, 0, (5, 5))
        desk.propose(0)
        for mark in ((1, 0), (1, 2), (5, 5)):
            with self.subTest(mark=mark):
                self.check_refused(desk, NotOpen, desk.settle, 1, mark)

    def test_not_open_for_a_letter_that_is_settled_already(self):
        desk = Desk(2)
        desk.propose(0)
        desk.propose(1)
        desk.settle(1, (4, 0))
        for mark in ((4, 0), (5, 0), (3, 9), (2, 2), (1, 0)):
            with self.subTest(mark=mark):
                self.check_refused(desk, NotOpen, desk.settle, 1, mark)
        self.check_rows(desk, [((1, 2), 0, False), ((4, 0), 1, True)])

    def test_not_open_for_a_letter_that_was_handed_over(self):
        desk = Desk(2)
        desk.propose(0)
        desk.settle(0, (4, 0))
        for mark in ((4, 0), (9, 0), (3, 0), (1, 2), (1, 0)):
            with self.subTest(mark=mark):
                self.check_refused(desk, NotOpen, desk.settle, 0, mark)


class HandOver(DeskCase):
    def test_a_settled_letter_waits_behind_an_open_one_with_a_lesser_mark(self):
        desk = Desk(0)
        desk.propose(0)
        desk.propose(1)
        self.assertEqual(desk.settle(1, (2, 0)), [])
        self.assertEqual(desk.handed(), [])
        self.check_rows(desk, [((1, 0), 0, False), ((2, 0), 1, True)])

    def test_an_open_mark_of_the_same_number_and_a_lesser_hand_is_less(self):
        desk = Desk(1)
        desk.propose(0)
        desk.propose(1)
        self.assertEqual(desk.settle(0, (2, 2)), [])
        self.check_rows(desk, [((2, 1), 1, False), ((2, 2), 0, True)])
        self.assertEqual(desk.settle(1, (2, 1)), [1, 0])

    def test_a_settled_mark_of_the_same_number_and_a_lesser_hand_is_less(self):
        desk = Desk(1)
        desk.propose(0)
        desk.propose(1)
        self.assertEqual(desk.settle(0, (2, 0)), [0])
        self.check_rows(desk, [((2, 1), 1, False)])

    def test_a_letter_settled_past_an_open_one_waits_behind_it(self):
        desk = Desk(0)
        desk.propose(0)
        desk.propose(1)
        self.assertEqual(desk.settle(0, (5, 0)), [])
        self.assertEqual(desk.propose(2), (6, 0))
        self.assertEqual(desk.settle(1, (3, 0)), [1, 0])
        self.assertEqual(desk.handed(), [1, 0])
        self.check_rows(desk, [((6, 0), 2, False)])

    def test_several_letters_by_one_settling(self):
        desk = Desk(0)
        for letter in range(6):
            desk.propose(letter)
        self.assertEqual(desk.settle(3, (9, 1)), [])
        self.assertEqual(desk.settle(1, (8, 0)), [])
        self.assertEqual(desk.settle(2, (9, 0)), [])
        self.assertEqual(desk.settle(5, (7, 0)), [])
        self.assertEqual(desk.settle(0, (1, 0)), [0])
        self.assertEqual(desk.settle(4, (10, 0)), [5, 1, 2, 3, 4])
        self.assertEqual(desk.handed(), [0, 5, 1, 2, 3, 4])
        self.assertEqual(desk.waiting(), [])

    def test_only_up_to_the_next_open_letter(self):
        desk = Desk(0)
        for letter in range(5):
            desk.propose(letter)
        for letter in (4, 1, 3):
            self.assertEqual(desk.settle(letter, (letter + 1, 0)), [])
        self.assertEqual(desk.settle(0, (1, 0)), [0, 1])
        self.check_rows(desk, [((3, 0), 2, False), ((4, 0), 3, True), ((5, 0), 4, True)])
        self.assertEqual(desk.settle(2, (3, 0)), [2, 3, 4])
        self.assertEqual(desk.handed(), [0, 1, 2, 3, 4])

    def test_the_row_is_by_marks_not_by_letters(self):
        desk = Desk(4)
        for letter in (9, 2, 30):
            desk.propose(letter)
        self.assertEqual(desk.settle(2, (5, 0)), [])
        self.assertEqual(desk.settle(30, (4, 0)), [])
        self.assertEqual(desk.settle(9, (6, 0)), [30, 2, 9])

    def test_numbers_count_as_numbers(self):
        desk = Desk(0)
        for letter in (0, 1, 2):
            desk.propose(letter)
        self.assertEqual(desk.settle(0, (10, 0)), [])
        self.assertEqual(desk.settle(1, (9, 10)), [])
        self.assertEqual(desk.settle(2, (9, 9)), [2, 1, 0])

    def test_of_like_marks_the_one_that_was_met_first_is_the_less(self):
        for order in itertools.permutations((7, 3, 5)):
            for settled in itertools.permutations(order):
                with self.subTest(order=order, settled=settled):
                    desk = Desk(0)
                    for letter in order:
                        desk.propose(letter)
                    told = [desk.settle(letter, (4, 1)) for letter in settled]
                    self.assertEqual(told, [[], [], list(order)])
                    self.assertEqual(desk.handed(), list(order))

    def test_like_marks_wait_in_the_order_in_which_they_were_met(self):
        desk = Desk(0)
        for letter in (1, 8, 2):
            desk.propose(letter)
        desk.settle(2, (6, 1))
        desk.settle(8, (6, 1))
        self.check_rows(desk, [((1, 0), 1, False), ((6, 1), 8, True), ((6, 1), 2, True)])

    def test_a_settled_mark_like_an_open_one_that_was_met_later(self):
        desk = Desk(0)
        for letter in (9, 4, 6):
            desk.propose(letter)
        self.assertEqual(desk.settle(4, (3, 0)), [])
        self.check_rows(desk, [((1, 0), 9, False), ((3, 0), 4, True), ((3, 0), 6, False)])
        self.assertEqual(desk.settle(9, (3, 0)), [9, 4])
        self.check_rows(desk, [((3, 0), 6, False)])

    def test_letters_that_come_later_wait_behind(self):
        desk = Desk(0)
        desk.propose(0)
        desk.settle(0, (3, 5))
        desk.propose(1)
        desk.propose(2)
        self.assertEqual(desk.settle(2, (5, 0)), [])
        self.assertEqual(desk.settle(1, (4, 0)), [1, 2])
        self.assertEqual(desk.handed(), [0, 1, 2])

    def test_very_great_letters_marks_and_hands(self):
        desk = Desk(GREAT)
        desk.propose(GREAT)
        desk.propose(GREAT + 1)
        self.assertEqual(desk.settle(GREAT, (GREAT + 1, 0)), [])
        self.assertEqual(desk.settle(GREAT + 1, (GREAT, GREAT)), [GREAT + 1, GREAT])
        self.assertEqual(desk.propose(0), (GREAT + 2, GREAT))


class Lists(DeskCase):
    """Each list that is told is the asker's own, and stays as it was told."""

    def desk(self):
        desk = Desk(0)
        for letter in (3, 1, 2, 4):
            desk.propose(letter)
        desk.settle(3, (1, 0))
        desk.settle(2, (5, 0))
        return desk

    def test_changing_them_changes_nothing(self):
        desk = self.desk()
        before = state(desk)
        for tell in (desk.waiting, desk.handed):
            told = tell()
            told.append(99)
            told.reverse()
            self.assertEqual(state(desk), before)
            told.clear()
            self.assertEqual(state(desk), before)

    def test_changing_the_list_of_a_settling_changes_nothing(self):
        desk = self.desk()
        told = desk.settle(1, (2, 0))
        self.assertEqual(told, [1])
        told.append(99)
        self.assertEqual(desk.handed(), [3, 1])
        told.clear()
        self.assertEqual(desk.handed(), [3, 1])
        self.assertEqual(desk.settle(4, (4, 0)), [4, 2])
        self.assertEqual(told, [])

    def test_the_empty_list_of_a_settling_is_the_askers_own_too(self):
        desk = Desk(0)
        for letter in (0, 1, 2):
            desk.propose(letter)
        told = desk.settle(2, (3, 0))
        self.assertEqual(told, [])
        told.append(99)
        self.assertEqual(desk.settle(1, (2, 0)), [])
        self.assertEqual(desk.settle(0, (1, 0)), [0, 1, 2])
        self.assertEqual(told, [99])

    def test_they_stay_as_they_were_told(self):
        desk = self.desk()
        waiting, handed, told = desk.waiting(), desk.handed(), desk.settle(1, (2, 0))
        desk.propose(5)
        desk.settle(4, (4, 0))
        desk.settle(5, (8, 0))
        self.assertEqual(waiting, [
            ((2, 0), 1, False), ((4, 0), 4, False), ((5, 0), 2, True),
        ])
        self.assertEqual(handed, [3])
        self.assertEqual(told, [1])
        self.assertEqual(desk.handed(), [3, 1, 4, 2, 5])


class AgainstThePlainDesk(DeskCase):
    """All short histories, each answer beside that of the plain desk above."""

    def run_both(self, hand, steps):
        desk, plain = Desk(hand), PlainDesk(hand)
        for step in steps:
            wanted = plain.propose(*step) if len(step) == 1 else plain.settle(*step)
            act = desk.propose if len(step) == 1 else desk.settle
            if isinstance(wanted, str):
                self.check_refused(desk, getattr(errors, wanted), act, *step)
            else:
                self.assertEqual(act(*step), wanted, steps)
            self.assertEqual(state(desk), (plain.waiting(), plain.row, plain.now), steps)

    def test_three_letters_met_first_then_settled_by_any_marks(self):
        marks = [(number, hand) for number in (1, 2, 3, 4) for hand in (0, 1, 2)]
        for order in itertools.permutations((5, 0, 9)):
            for told in itertools.product(marks, repeat=3):
                self.run_both(1, [(4,), (0,), (5,), (9,)] + list(zip(order, told)) + [(0,)])

    def test_meeting_and_settling_by_turns(self):
        marks = ((1, 1), (2, 0), (3, 1))
        choices = [(letter,) for letter in (0, 1)]
        choices += [(letter, mark) for letter in (0, 1) for mark in marks]
        for steps in itertools.product(choices, repeat=5):
            self.run_both(1, steps)

    def test_many_letters_by_a_written_rule(self):
        for rule in range(60):
            steps, value = [], rule
            for letter in range(40):
                steps.append(((letter * 7 + rule) % 40,))
                value = (value * 75 + 74) % 65537
                steps.append((value % 40, (1 + value // 40 % 50, value % 5)))
                value = (value * 75 + 74) % 65537
                steps.append((value % 40, (letter + 1 + value // 40 % 9, value % 5)))
            self.run_both(rule % 5, steps)


if __name__ == "__main__":
    unittest.main()
