"""The house: its hands, the letters that they send, the mails between them."""

from onebell.desk import Desk
from onebell.errors import BadCount, NoHand, NoLetter, NoMail
from onebell.marks import greatest

MOST_HANDS = 40


def _is_one_of(value, many):
    """Whether value, whatever it is, is a whole number from nought on below many."""
    return isinstance(value, int) and not isinstance(value, bool) and 0 <= value < many


class House:
    """A house of so many hands, with a desk each and a row of mails under way."""

    def __init__(self, many):
        if not _is_one_of(many, MOST_HANDS + 1) or many == 0:
            raise BadCount("a house has 1 to 40 hands")
        self._desks = [Desk(hand) for hand in range(many)]
        # Of each letter: its sender, its text, the marks that its sender has.
        self._senders = []
        self._texts = []
        self._gathered = []
        self._under_way = []

    def send(self, hand, text):
        """Let a hand send a letter to all hands: the letter's number."""
        desk = self._desk(hand)
        letter = len(self._texts)
        self._senders.append(hand)
        self._texts.append(text)
        self._gathered.append([])
        self._mail_others("letter", letter, None)
        self._gather(letter, desk.propose(letter))
        return letter

    def mails(self):
        """The mails under way, in the order in which they were sent."""
        return list(self._under_way)

    def bring(self, place):
        """Bring the mail at a place of the row: that mail."""
        if not _is_one_of(place, len(self._under_way)):
            raise NoMail("no mail under way stands at this place")
        mail = self._under_way.pop(place)
        word, letter, origin, hand, mark = mail
        if word == "letter":
            proposed = self._desks[hand].propose(letter)
            self._under_way.append(("number", letter, hand, origin, proposed))
        elif word == "number":
            self._gather(letter, mark)
        else:
            self._desks[hand].settle(letter, mark)
        return mail

    def rest(self):
        """Bring the first mail until none is under way: how many came."""
        came = 0
        while self._under_way:
            self.bring(0)
            came += 1
        return came

    def letters(self):
        """How many letters were sent."""
        return len(self._texts)

    def sender(self, letter):
        """The hand that sent a letter."""
        self._check_letter(letter)
        return self._senders[letter]

    def text(self, letter):
        """The text of a letter."""
        self._check_letter(letter)
        return self._texts[letter]

    def mark(self, letter):
        """The mark of a letter, None as long as its sender has not all marks."""
        self._check_letter(letter)
        marks = self._gathered[letter]
        if len(marks) < len(self._desks):
            return None
        return greatest(marks)

    def handed(self, hand):
        """The letters that a hand has handed over, in order."""
        return self._desk(hand).handed()

    def clock(self, hand):
        """The clock of a hand's desk."""
        return self._desk(hand).clock()

    def _desk(self, hand):
        if not _is_one_of(hand, len(self._desks)):
            raise NoHand("this is no hand of the house")
        return self._desks[hand]

    def _check_letter(self, letter):
        if not _is_one_of(letter, len(self._texts)):
            raise NoLetter("this is no letter that was sent")

    def _gather(self, letter, mark):
        """Give a letter's sender a hand's mark: with the last one it has its own."""
        self._gathered[letter].append(mark)
        chosen = self.mark(letter)
        if chosen is not None:
            self._desks[self._senders[letter]].settle(letter, chosen)
            self._mail_others("mark", letter, chosen)

    def _mail_others(self, word, letter, mark):
        """Send a mail from a letter's sender to each other hand, the lesser first."""
        origin = self._senders[letter]
        for hand in range(len(self._desks)):
            if hand != origin:
                self._under_way.append((word, letter, origin, hand, mark))
