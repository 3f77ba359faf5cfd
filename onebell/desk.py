"""The desk of a hand: its clock, the letters that wait, the row handed over."""

from heapq import heappop, heappush

from onebell.errors import BadMark, NotOpen, Twice
from onebell.marks import less


class Desk:
    """The desk of one hand, by itself."""

    def __init__(self, hand):
        self._hand = hand
        self._clock = 0
        self._met = {}
        # The letters with an open mark: (mark, met, letter) by letter. Here
        # and in _settled, met says how many letters were met before this one:
        # of like marks the letter that was met first counts as the less.
        self._unsettled = {}
        # A heap, so that the least settled letter is always the first item.
        self._settled = []
        self._row = []

    def propose(self, letter):
        """Meet a letter: the mark that the desk proposes for it."""
        if letter in self._met:
            raise Twice("the desk has met this letter before")
        self._clock += 1
        mark = (self._clock, self._hand)
        met = len(self._met)
        self._met[letter] = True
        self._unsettled[letter] = (mark, met, letter)
        return mark

    def settle(self, letter, mark):
        """Settle a letter by a mark: the letters that are handed over by that."""
        if letter not in self._unsettled:
            raise NotOpen("this letter does not wait with an open mark")
        proposed, met, _ = self._unsettled[letter]
        if less(mark, proposed):
            raise BadMark("the mark is less than the proposed one")
        del self._unsettled[letter]
        heappush(self._settled, (mark, met, letter))
        self._clock = max(self._clock, mark[0])
        return self._hand_over()

    def _hand_over(self):
        """Hand over while the least waiting letter is settled: those letters."""
        now = []
        while self._settled and self._least_is_settled():
            _, _, letter = heappop(self._settled)
            now.append(letter)
        self._row.extend(now)
        return now

    def _least_is_settled(self):
        """Whether no open letter is less than the least settled one."""
        # The clock never goes back, so each open mark is greater than those
        # that were proposed before it: the first open letter is the least.
        least = next(iter(self._unsettled.values()), None)
        return least is None or self._settled[0] < least

    def waiting(self):
        """The letters that wait as (mark, letter, settled), the least one first."""
        rows = [(mark, met, letter, False) for mark, met, letter in self._unsettled.values()]
        rows.extend([(mark, met, letter, True) for mark, met, letter in self._settled])
        return [(mark, letter, settled) for mark, _, letter, settled in sorted(rows)]

    def handed(self):
        """The letters that were handed over, in order."""
        return list(self._row)

    def clock(self):
        """The clock of the desk, 0 at first."""
        return self._clock
