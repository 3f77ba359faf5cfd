"""Point 11: one order for all hands, whatever mail is brought next.

Which mail comes next is chosen by written rules. Behind each step all that
point 11 says is looked at.
"""

import unittest

from onebell.house import House


class Watched:
    """A house, and what point 11 says of it, looked at behind each step."""

    def __init__(self, case, many):
        self.case, self.many, self.house = case, many, House(many)
        # Of each letter: the letters that its sender had handed over when it
        # was sent. Of each hand: its row as told last, and what it went through.
        self.behind, self.rows, self.lived = [], [[] for _ in range(many)], [[] for _ in range(many)]
        self.awaited = 0

    def send(self, hand):
        had = self.house.handed(hand)
        letter = self.house.send(hand, f"letter {len(self.behind)} of {hand}")
        self.case.assertEqual(letter, len(self.behind))
        self.behind.append(had)
        self.lived[hand].append(letter)
        self.awaited += 3 * (self.many - 1)
        self.check()

    def bring(self, place):
        before = self.house.mails()
        mail = self.house.bring(place)
        self.case.assertEqual(mail, before[place])
        self.lived[mail[3]].append(mail)
        self.awaited -= 1
        self.check()

    def all_lived(self):
        return tuple(tuple(steps) for steps in self.lived)

    def check(self):
        rows = [self.house.handed(hand) for hand in range(self.many)]
        for before, row in zip(self.rows, rows):
            self.case.assertEqual(row[:len(before)], before, "a row is only added to")
        self.rows = rows
        longest = max(rows, key=len)
        # Each one is the beginning of the longest one, so of any two the
        # shorter one is the beginning of the other.
        for row in rows:
            self.case.assertEqual(row, longest[:len(row)])
        self.check_row(longest)
        if not self.house.mails():
            self.case.assertEqual(self.awaited, 0)
            self.case.assertEqual(sorted(longest), list(range(len(self.behind))))
            self.case.assertEqual(rows, [longest] * self.many)

    def check_row(self, row):
        self.case.assertEqual(len(row), len(set(row)), "no letter stands twice")
        self.case.assertLessEqual(set(row), set(range(self.house.letters())))
        marks = [self.house.mark(letter) for letter in row]
        self.case.assertNotIn(None, marks)
        for mark, later in zip(marks, marks[1:]):
            self.case.assertLess(mark, later, "marks rise")
        places = {letter: place for place, letter in enumerate(row)}
        for letter, place in places.items():
            for earlier in self.behind[letter]:
                self.case.assertLess(places[earlier], place)


def first(mails, step):
    return 0


def last(mails, step):
    return len(mails) - 1


def middle(mails, step):
    return len(mails) // 2


def by_turns(mails, step):
    return 0 if step % 2 else len(mails) - 1


def leaps(mails, step):
    return step * 7 % len(mails)


def growing_leaps(mails, step):
    return step * step % len(mails)


def stirred(mails, step):
    return (step * 1103515245 + 12345) // 1000 % len(mails)


def best(mails, worth):
    """The place of the first mail that is worth least."""
    return min(range(len(mails)), key=lambda place: (worth(mails[place]), place))


def letters_first(mails, step):
    return best(mails, lambda mail: ("letter", "number", "mark").index(mail[0]))


def marks_first(mails, step):
    return best(mails, lambda mail: ("mark", "number", "letter").index(mail[0]))


def numbers_last(mails, step):
    return best(mails, lambda mail: ("mark", "letter", "number").index(mail[0]))


def greatest_hand_first(mails, step):
    return best(mails, lambda mail: -mail[3])


def hand_0_last(mails, step):
    return best(mails, lambda mail: mail[3] == 0)


def from_hand_1_last(mails, step):
    return best(mails, lambda mail: mail[2] == 1)


def latest_letter_first(mails, step):
    return best(mails, lambda mail: -mail[1])


def odd_letters_last(mails, step):
    return best(mails, lambda mail: mail[1] % 2)


def far_hands_last(mails, step):
    return best(mails, lambda mail: abs(mail[2] - mail[3]))


RULES = (
    first, last, middle, by_turns, leaps, growing_leaps, stirred, letters_first, marks_first,
    numbers_last, greatest_hand_first, hand_0_last, from_hand_1_last, latest_letter_first,
    odd_letters_last, far_hands_last,
)

# How many mails are brought between two letters: none, few, many, ever more.
PAUSES = (
    lambda letter: 0, lambda letter: 1, lambda letter: 3, lambda letter: letter,
    lambda letter: 9 if letter % 3 == 2 else 0, lambda letter: 10 ** 6 if letter == 3 else 2,
)

# Which hand sends a letter.
SENDERS = (
    lambda letter, many: letter % many, lambda letter, many: many - 1 - letter % many,
    lambda letter, many: letter // 2 % many, lambda letter, many: letter * letter % many,
    lambda letter, many: 0,
)


class Histories(unittest.TestCase):
    def run_history(self, many, letters, rule, pause, sender):
        told = Watched(self, many)
        step = 0
        for letter in range(letters):
            told.send(sender(letter, many))
            for _ in range(pause(letter)):
                if not told.house.mails():
                    break
                told.bring(rule(told.house.mails(), step))
                step += 1
        while told.house.mails():
            told.bring(rule(told.house.mails(), step))
            step += 1
        self.assertEqual(told.awaited, 0)
        return told

    def run_histories(self, manies, letters, pauses, senders):
        for many in manies:
            for rule in RULES:
                for pause in pauses:
                    for sender in senders:
                        told = self.run_history(many, letters, rule, pause, sender)
                        self.check_end(told, letters)

    def check_end(self, told, letters):
        """With no mail under way all letters are handed over by each hand."""
        for hand in range(told.many):
            self.assertEqual(sorted(told.house.handed(hand)), list(range(letters)))
            self.assertEqual(told.house.handed(hand), told.house.handed(0))
        for letter in range(letters):
            self.assertIsNotNone(told.house.mark(letter))

    def test_houses_of_1_to_3_hands(self):
        self.run_histories((1, 2, 3), 7, PAUSES, SENDERS)

    def test_houses_of_4_and_5_hands(self):
        self.run_histories((4, 5), 7, PAUSES[1:4], SENDERS[:3])

    def test_houses_of_more_hands(self):
        self.run_histories((8, 13), 5, PAUSES[2:4], SENDERS[3:4])

    def test_a_house_of_40_hands(self):
        for rule in (first, last, leaps, stirred):
            told = self.run_history(40, 4, rule, PAUSES[2], SENDERS[1])
            self.check_end(told, 4)

    def test_the_histories_differ(self):
        """The rules are of worth only if they bring about more than one order."""
        ends = {
            tuple(self.run_history(3, 7, rule, PAUSES[1], SENDERS[0]).rows[0]) for rule in RULES
        }
        self.assertGreater(len(ends), 4)

    def test_a_hand_that_hears_of_nothing_holds_all_up_but_breaks_nothing(self):
        told = Watched(self, 3)
        for hand in (0, 1, 2, 0, 1):
            told.send(hand)
            self.bring_all_but(told, 2)
        self.assertEqual(told.rows, [[], [], []])
        while told.house.mails():
            told.bring(len(told.house.mails()) - 1)
        self.check_end(told, 5)

    def bring_all_but(self, told, hand):
        while True:
            places = [at for at, mail in enumerate(told.house.mails()) if mail[3] != hand]
            if not places:
                return
            told.bring(places[-1])

    def test_a_letter_stands_behind_what_its_sender_had_handed_over(self):
        told = Watched(self, 3)
        told.send(0)
        # Hand 0 hands its letter over before any mark comes to the others.
        while told.house.handed(0) == []:
            told.bring(0)
        told.send(0)
        self.assertEqual(told.behind, [[], [0]])
        while told.house.mails():
            told.bring(len(told.house.mails()) - 1)
        self.assertEqual(told.rows, [[0, 1]] * 3)


class EveryHistory(unittest.TestCase):
    """Whatever order there is, in small houses with few letters.

    Histories in which each hand lives through the same things in the same
    order differ only in their row of mails: one of them is gone on with.
    """

    def explore(self, many, senders):
        seen, open_ones, ends = set(), [()], set()
        while open_ones:
            steps = open_ones.pop()
            told, sent = self.replay(many, senders, steps)
            if told.all_lived() in seen:
                continue
            seen.add(told.all_lived())
            mails = told.house.mails()
            if sent < len(senders):
                open_ones.append(steps + (None,))
            elif not mails:
                ends.add(tuple(told.rows[0]))
            open_ones.extend([steps + (mail,) for mail in mails])
        return ends

    def replay(self, many, senders, steps):
        told, sent = Watched(self, many), 0
        for step in steps:
            if step is None:
                told.send(senders[sent])
                sent += 1
            else:
                told.bring(told.house.mails().index(step))
        return told, sent

    def test_one_letter(self):
        for many in (1, 2, 3, 4):
            for sender in range(many):
                self.assertEqual(self.explore(many, (sender,)), {(0,)})

    def test_two_letters_in_a_house_of_two(self):
        self.assertEqual(self.explore(2, (0, 1)), {(0, 1), (1, 0)})
        self.assertEqual(self.explore(2, (1, 0)), {(0, 1), (1, 0)})
        for hand in (0, 1):
            self.assertEqual(self.explore(2, (hand, hand)), {(0, 1), (1, 0)})

    def test_three_letters_in_a_house_of_two(self):
        for senders in ((0, 1, 0), (0, 0, 1), (1, 0, 0)):
            self.assertGreater(len(self.explore(2, senders)), 3)

    def test_two_letters_in_a_house_of_three(self):
        for senders in ((0, 1), (2, 2)):
            self.assertEqual(self.explore(3, senders), {(0, 1), (1, 0)})


if __name__ == "__main__":
    unittest.main()
