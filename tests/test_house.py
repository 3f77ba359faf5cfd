"""Points 7 to 10: the house, its letters, its mails, and what it refuses."""

import unittest

from onebell import errors, house
from onebell.errors import BadCount, BellError, NoHand, NoLetter, NoMail
from onebell.house import MOST_HANDS, House

REFUSALS = ("BadCount", "NoHand", "NoLetter", "NoMail", "Twice", "NotOpen", "BadMark", "NoNote")

# What is no whole number, whatever it is.
NO_NUMBERS = (
    True, False, None, "", "0", "1", "letter", [], [0], [1], (), (0,), (1, 0), {}, {0: 0}, {1: 1},
    0.0, 1.0, b"", b"0", range(1), House, object(),
)
# Whole numbers that are none of a few things told from nought on.
TOO_MANY_FIGURES = 10 ** 5000
FAR_OFF = (-1, -2, -40, 41, 1000, 10 ** 30, TOO_MANY_FIGURES, -TOO_MANY_FIGURES)


def rows(told, many):
    return [told.handed(hand) for hand in range(many)]


def clocks(told, many):
    return [told.clock(hand) for hand in range(many)]


def state(told, many):
    letters = range(told.letters())
    return (
        told.mails(), rows(told, many), clocks(told, many),
        [(told.sender(letter), told.text(letter), told.mark(letter)) for letter in letters],
    )


class HouseCase(unittest.TestCase):
    def check_kind(self, refusal, kind):
        self.assertIsInstance(refusal, BellError)
        self.assertIsInstance(refusal, ValueError)
        for name in REFUSALS:
            other = getattr(errors, name)
            self.assertEqual(isinstance(refusal, other), other is kind, name)

    def check_refused(self, kind, act, *told):
        with self.assertRaises(kind) as held:
            act(*told)
        self.check_kind(held.exception, kind)

    def check_mails(self, told, mails):
        self.assertEqual(told.mails(), mails)
        for mail in told.mails():
            self.check_mail(mail)

    def check_mail(self, mail):
        """A mail is a tuple of five, of the kinds that point 9 tells."""
        self.assertIs(type(mail), tuple)
        self.assertEqual([type(part) for part in mail[:4]], [str, int, int, int])
        self.assertEqual(mail[4] is None, mail[0] == "letter")
        if mail[4] is not None:
            self.assertIs(type(mail[4]), tuple)
            self.assertEqual([type(part) for part in mail[4]], [int, int])

    def check_bring(self, told, mail, behind):
        """This mail is brought, by its place, and these stand in its row behind that."""
        self.assertEqual(told.bring(told.mails().index(mail)), mail)
        self.check_mails(told, behind)


class Count(HouseCase):
    def test_most_hands(self):
        self.assertEqual(MOST_HANDS, 40)
        self.assertIs(type(house.MOST_HANDS), int)

    def test_houses_of_1_to_40_hands(self):
        for many in range(1, 41):
            with self.subTest(many=many):
                told = House(many)
                self.assertEqual(state(told, many), ([], [[]] * many, [0] * many, []))
                self.check_refused(NoHand, told.handed, many)
                told.send(many - 1, "x")
                self.assertEqual(len(told.mails()), many - 1)
                told.rest()
                self.assertEqual(rows(told, many), [[0]] * many)

    def test_numbers_that_are_none(self):
        for many in (0, 41, 42, -1, -40, 10 ** 30, TOO_MANY_FIGURES, -TOO_MANY_FIGURES):
            with self.subTest(figures=many.bit_length()):
                self.check_refused(BadCount, House, many)

    def test_what_is_no_whole_number(self):
        for many in NO_NUMBERS:
            with self.subTest(many=many):
                self.check_refused(BadCount, House, many)


class Send(HouseCase):
    def test_letters_are_numbered_from_nought_on(self):
        told = House(3)
        for count, hand in enumerate((2, 0, 0, 1, 2)):
            self.assertEqual(told.letters(), count)
            letter = told.send(hand, f"letter {count}")
            self.assertEqual(letter, count)
            self.assertIs(type(letter), int)
        self.assertEqual(told.letters(), 5)
        told.rest()
        self.assertEqual(told.send(0, ""), 5)
        self.assertEqual(told.letters(), 6)

    def test_sender_and_text(self):
        told = House(3)
        sent = ((2, "two"), (0, ""), (0, "two"), (1, "a b: c ~ !"))
        for hand, text in sent:
            told.send(hand, text)
        for _ in range(2):
            for letter, (hand, text) in enumerate(sent):
                self.assertEqual(told.sender(letter), hand)
                self.assertEqual(told.text(letter), text)
            told.rest()

    def test_mails_go_to_each_other_hand_the_lesser_first(self):
        told = House(4)
        told.send(2, "x")
        first = [("letter", 0, 2, hand, None) for hand in (0, 1, 3)]
        self.check_mails(told, first)
        told.send(0, "y")
        second = [("letter", 1, 0, hand, None) for hand in (1, 2, 3)]
        self.check_mails(told, first + second)
        told.send(3, "z")
        third = [("letter", 2, 3, hand, None) for hand in (0, 1, 2)]
        self.check_mails(told, first + second + third)

    def test_mails_of_houses_of_two_and_of_forty(self):
        told = House(2)
        told.send(1, "x")
        self.check_mails(told, [("letter", 0, 1, 0, None)])
        told.send(0, "x")
        self.check_mails(told, [("letter", 0, 1, 0, None), ("letter", 1, 0, 1, None)])
        told = House(40)
        told.send(17, "x")
        others = [hand for hand in range(40) if hand != 17]
        self.check_mails(told, [("letter", 0, 17, hand, None) for hand in others])

    def test_the_sender_meets_the_letter_at_once_and_no_other_hand_does(self):
        told = House(3)
        told.send(1, "x")
        self.assertEqual(clocks(told, 3), [0, 1, 0])
        told.send(1, "y")
        told.send(2, "z")
        self.assertEqual(clocks(told, 3), [0, 2, 1])
        self.assertEqual(rows(told, 3), [[], [], []])
        self.assertEqual([told.mark(letter) for letter in range(3)], [None] * 3)

    def test_houses_are_by_themselves(self):
        one, other = House(2), House(2)
        one.send(0, "x")
        one.rest()
        self.assertEqual(state(other, 2), ([], [[], []], [0, 0], []))


class Bring(HouseCase):
    def test_one_letter_in_a_house_of_two(self):
        told = House(2)
        told.send(0, "x")
        self.check_bring(told, ("letter", 0, 0, 1, None), [("number", 0, 1, 0, (1, 1))])
        self.assertEqual(clocks(told, 2), [1, 1])
        self.assertEqual(rows(told, 2), [[], []])
        self.assertIsNone(told.mark(0))
        self.check_bring(told, ("number", 0, 1, 0, (1, 1)), [("mark", 0, 0, 1, (1, 1))])
        self.assertEqual(told.mark(0), (1, 1))
        self.assertEqual(rows(told, 2), [[0], []])
        self.check_bring(told, ("mark", 0, 0, 1, (1, 1)), [])
        self.assertEqual(rows(told, 2), [[0], [0]])
        self.assertEqual(clocks(told, 2), [1, 1])

    def test_each_sort_of_mail_from_each_place(self):
        """Two letters in a house of three: last, middle and first place by turns."""
        told = House(3)
        told.send(1, "x")
        told.send(2, "y")
        self.check_mails(told, [
            ("letter", 0, 1, 0, None), ("letter", 0, 1, 2, None),
            ("letter", 1, 2, 0, None), ("letter", 1, 2, 1, None),
        ])
        self.assertEqual(told.bring(2), ("letter", 1, 2, 0, None))
        self.check_mails(told, [
            ("letter", 0, 1, 0, None), ("letter", 0, 1, 2, None),
            ("letter", 1, 2, 1, None), ("number", 1, 0, 2, (1, 0)),
        ])
        self.assertEqual(told.bring(0), ("letter", 0, 1, 0, None))
        self.check_mails(told, [
            ("letter", 0, 1, 2, None), ("letter", 1, 2, 1, None),
            ("number", 1, 0, 2, (1, 0)), ("number", 0, 0, 1, (2, 0)),
        ])
        self.assertEqual(told.bring(3), ("number", 0, 0, 1, (2, 0)))
        self.check_mails(told, [
            ("letter", 0, 1, 2, None), ("letter", 1, 2, 1, None), ("number", 1, 0, 2, (1, 0)),
        ])
        self.assertEqual(told.bring(1), ("letter", 1, 2, 1, None))
        self.check_mails(told, [
            ("letter", 0, 1, 2, None), ("number", 1, 0, 2, (1, 0)), ("number", 1, 1, 2, (2, 1)),
        ])
        self.assertEqual(told.bring(1), ("number", 1, 0, 2, (1, 0)))
        self.assertIsNone(told.mark(1))
        self.assertEqual(told.bring(0), ("letter", 0, 1, 2, None))
        self.check_mails(told, [("number", 1, 1, 2, (2, 1)), ("number", 0, 2, 1, (2, 2))])
        self.assertEqual(told.bring(0), ("number", 1, 1, 2, (2, 1)))
        self.assertEqual(told.mark(1), (2, 1))
        self.check_mails(told, [
            ("number", 0, 2, 1, (2, 2)), ("mark", 1, 2, 0, (2, 1)), ("mark", 1, 2, 1, (2, 1)),
        ])
        self.assertEqual(rows(told, 3), [[], [], [1]])
        self.assertEqual(told.bring(1), ("mark", 1, 2, 0, (2, 1)))
        # Hand 0 has an open mark (2, 0) for letter 0, which is less.
        self.assertEqual(rows(told, 3), [[], [], [1]])
        self.assertEqual(told.bring(0), ("number", 0, 2, 1, (2, 2)))
        self.check_mails(told, [
            ("mark", 1, 2, 1, (2, 1)), ("mark", 0, 1, 0, (2, 2)), ("mark", 0, 1, 2, (2, 2)),
        ])
        self.assertEqual(told.mark(0), (2, 2))
        # Hand 1 has an open mark (2, 1) for letter 1, which is less.
        self.assertEqual(rows(told, 3), [[], [], [1]])
        self.assertEqual(told.bring(2), ("mark", 0, 1, 2, (2, 2)))
        self.assertEqual(rows(told, 3), [[], [], [1, 0]])
        self.assertEqual(told.bring(0), ("mark", 1, 2, 1, (2, 1)))
        self.assertEqual(rows(told, 3), [[], [1, 0], [1, 0]])
        self.assertEqual(told.bring(0), ("mark", 0, 1, 0, (2, 2)))
        self.assertEqual(rows(told, 3), [[1, 0], [1, 0], [1, 0]])
        self.check_mails(told, [])
        self.assertEqual(clocks(told, 3), [2, 2, 2])

    def test_mails_of_a_mark_go_to_each_other_hand_the_lesser_first(self):
        told = House(5)
        told.send(2, "x")
        for _ in range(4):
            told.bring(0)
        self.check_mails(told, [("number", 0, hand, 2, (1, hand)) for hand in (0, 1, 3, 4)])
        for place in (3, 0, 1):
            told.bring(place)
        self.check_mails(told, [("number", 0, 1, 2, (1, 1))])
        self.assertIsNone(told.mark(0))
        told.bring(0)
        self.check_mails(told, [("mark", 0, 2, hand, (1, 4)) for hand in (0, 1, 3, 4)])
        self.assertEqual(told.mark(0), (1, 4))
        self.assertEqual(rows(told, 5), [[], [], [0], [], []])

    def test_the_mark_may_be_the_senders_own(self):
        told = House(3)
        told.send(2, "x")
        told.rest()
        self.assertEqual(told.mark(0), (1, 2))
        told.send(0, "y")
        told.send(0, "z")
        for place in (2, 2):
            told.bring(place)
        told.rest()
        self.assertEqual(told.mark(2), (3, 0))

    def test_the_mark_is_the_greatest_by_the_number_first(self):
        told = House(3)
        for _ in range(3):
            told.send(0, "x")
        told.send(1, "y")
        # The mail of letter 3 to hand 0, where three letters were met.
        self.assertEqual(told.bring(6), ("letter", 3, 1, 0, None))
        self.assertEqual(told.bring(6), ("letter", 3, 1, 2, None))
        self.check_mails(told, told.mails()[:6] + [
            ("number", 3, 0, 1, (4, 0)), ("number", 3, 2, 1, (1, 2)),
        ])
        told.bring(6)
        told.bring(6)
        self.assertEqual(told.mark(3), (4, 0))
        self.assertEqual(told.clock(1), 4)

    def test_a_mark_that_comes_sets_the_clock_on(self):
        told = House(3)
        for _ in range(3):
            told.send(0, "x")
        told.send(1, "y")
        for _ in range(4):
            told.bring(6)
        self.check_mails(told, told.mails()[:6] + [
            ("mark", 3, 1, 0, (4, 0)), ("mark", 3, 1, 2, (4, 0)),
        ])
        self.assertEqual(clocks(told, 3), [4, 4, 1])
        told.bring(7)
        self.assertEqual(clocks(told, 3), [4, 4, 4])
        self.assertEqual(rows(told, 3), [[], [3], [3]])
        told.bring(6)
        self.assertEqual(clocks(told, 3), [4, 4, 4])
        self.assertEqual(rows(told, 3), [[], [3], [3]])
        self.assertEqual(told.rest(), 18)
        self.assertEqual(rows(told, 3), [[3, 0, 1, 2]] * 3)

    def test_each_mail_stays_under_way_until_it_is_brought(self):
        told = House(3)
        told.send(0, "x")
        told.send(1, "y")
        for place in (3, 1, 2, 0, 2, 1):
            before = told.mails()
            mail = told.bring(place)
            self.assertEqual(mail, before[place])
            left = before[:place] + before[place + 1:]
            self.assertEqual(told.mails()[:len(left)], left)

    def test_bring_tells_the_mail(self):
        told = House(3)
        told.send(0, "x")
        while told.mails():
            before = told.mails()
            mail = told.bring(len(before) // 2)
            self.check_mail(mail)
            self.assertEqual(mail, before[len(before) // 2])


class OneHand(HouseCase):
    def test_all_is_done_as_the_letter_is_sent(self):
        told = House(1)
        for letter in range(4):
            self.assertEqual(told.send(0, f"letter {letter}"), letter)
            self.check_mails(told, [])
            self.assertEqual(told.mark(letter), (letter + 1, 0))
            self.assertEqual(told.handed(0), list(range(letter + 1)))
            self.assertEqual(told.clock(0), letter + 1)
            self.assertEqual(told.rest(), 0)
        self.check_refused(NoMail, told.bring, 0)


class Rest(HouseCase):
    def test_with_no_mail_under_way(self):
        for many in (1, 2, 40):
            told = House(many)
            for _ in range(2):
                came = told.rest()
                self.assertEqual(came, 0)
                self.assertIs(type(came), int)
            self.assertEqual(state(told, many), ([], [[]] * many, [0] * many, []))

    def test_how_many_came(self):
        for many in (2, 3, 5, 40):
            for letters in (1, 2, 4):
                with self.subTest(many=many, letters=letters):
                    told = House(many)
                    for letter in range(letters):
                        told.send(letter * 3 % many, "x")
                    self.assertEqual(told.rest(), 3 * letters * (many - 1))
                    self.check_mails(told, [])
                    self.assertEqual(told.rest(), 0)

    def test_of_mails_half_brought(self):
        told = House(3)
        told.send(0, "x")
        told.bring(1)
        told.bring(0)
        self.assertEqual(told.rest(), 4)

    def test_it_brings_the_first_mail_again_and_again(self):
        for many in (2, 3, 4):
            one, other = House(many), House(many)
            for hand in (1, 0, 1, many - 1):
                one.send(hand, "x")
                other.send(hand, "x")
            came = 0
            while other.mails():
                other.bring(0)
                came += 1
            self.assertEqual(one.rest(), came)
            self.assertEqual(state(one, many), state(other, many))

    def test_the_order_that_it_finds(self):
        told = House(2)
        told.send(1, "x")
        told.send(0, "y")
        self.assertEqual(told.rest(), 6)
        # Hand 0 met letter 1 first, hand 1 met letter 0 first.
        self.assertEqual([told.mark(0), told.mark(1)], [(2, 0), (2, 1)])
        self.assertEqual(rows(told, 2), [[0, 1], [0, 1]])


class Refusals(HouseCase):
    def house(self):
        """A house of three with two letters, one of them with a mark, and four mails."""
        told = House(3)
        told.send(1, "x")
        for _ in range(4):
            told.bring(0)
        told.send(0, "y")
        self.assertEqual(len(told.mails()), 4)
        return told

    def check_all(self, kind, acts, told, wrong):
        before = state(told, 3)
        for value in wrong:
            for act in acts:
                self.check_refused(kind, act, value)
                self.assertEqual(state(told, 3), before)

    def test_what_is_no_hand(self):
        told = self.house()
        acts = (lambda hand: told.send(hand, "z"), told.handed, told.clock)
        self.check_all(NoHand, acts, told, (3,) + FAR_OFF + NO_NUMBERS)
        self.assertEqual(told.send(2, "z"), 2)

    def test_what_is_no_letter(self):
        told = self.house()
        acts = (told.sender, told.text, told.mark)
        self.check_all(NoLetter, acts, told, (2,) + FAR_OFF + NO_NUMBERS)
        self.assertEqual(told.sender(1), 0)
        told.send(2, "z")
        self.assertEqual([told.sender(2), told.text(2), told.mark(2)], [2, "z", None])

    def test_what_is_no_place(self):
        told = self.house()
        self.check_all(NoMail, (told.bring,), told, (4,) + FAR_OFF + NO_NUMBERS)
        self.assertEqual(told.bring(3), ("letter", 1, 0, 2, None))
        self.check_all(NoMail, (told.bring,), told, (4,) + FAR_OFF + NO_NUMBERS)

    def test_in_a_house_in_which_nothing_was_sent(self):
        for many in (1, 2, 40):
            told = House(many)
            for wrong in (0,) + FAR_OFF + NO_NUMBERS:
                self.check_refused(NoMail, told.bring, wrong)
                for act in (told.sender, told.text, told.mark):
                    self.check_refused(NoLetter, act, wrong)
            self.assertEqual(state(told, many), ([], [[]] * many, [0] * many, []))

    def test_no_place_when_all_mails_came(self):
        told = House(2)
        told.send(0, "x")
        told.rest()
        for wrong in (0, 1) + FAR_OFF + NO_NUMBERS:
            self.check_refused(NoMail, told.bring, wrong)

    def test_the_edges_of_each(self):
        told = House(40)
        told.send(39, "x")
        self.check_refused(NoHand, told.send, 40, "y")
        self.check_refused(NoHand, told.handed, 40)
        self.check_refused(NoHand, told.clock, 40)
        self.assertEqual(told.clock(39), 1)
        self.check_refused(NoMail, told.bring, 39)
        self.assertEqual(told.bring(38), ("letter", 0, 39, 38, None))
        self.check_refused(NoLetter, told.mark, 1)
        self.assertEqual(told.letters(), 1)


class Lists(HouseCase):
    """Each list that is told is the asker's own, and stays as it was told."""

    def house(self):
        told = House(3)
        told.send(0, "x")
        told.rest()
        told.send(1, "y")
        told.bring(0)
        return told

    def test_changing_them_changes_nothing(self):
        told = self.house()
        before = state(told, 3)
        for tell in (told.mails, lambda: told.handed(0), lambda: told.handed(2)):
            row = tell()
            self.assertIs(type(row), list)
            row.append(row[0])
            row.reverse()
            self.assertEqual(state(told, 3), before)
            row.clear()
            self.assertEqual(state(told, 3), before)
        self.assertEqual(told.rest(), 5)
        self.assertEqual(rows(told, 3), [[0, 1]] * 3)

    def test_they_stay_as_they_were_told(self):
        told = self.house()
        mails, handed = told.mails(), told.handed(1)
        told.send(2, "z")
        told.rest()
        self.assertEqual(mails, [("letter", 1, 1, 2, None), ("number", 1, 0, 1, (2, 0))])
        self.assertEqual(handed, [0])
        # Hand 2 had sent letter 2 before it met letter 1.
        self.assertEqual([told.mark(1), told.mark(2)], [(3, 2), (3, 1)])
        self.assertEqual(told.handed(1), [0, 2, 1])


if __name__ == "__main__":
    unittest.main()
