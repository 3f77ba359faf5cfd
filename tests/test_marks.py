"""Point 2: what a mark is, and when a mark is less than another one."""

import itertools
import unittest

from onebell.marks import greatest, less

GREAT = 10 ** 30

# Ascending by the document's words. 9 and 10 stand in it because their
# figures come in the other order as text, and neighbours of 10 ** 30 because
# a float cannot tell them apart.
RISING = [
    (1, 0), (1, 1), (1, 2), (1, 9), (1, 10), (1, 39),
    (2, 0), (2, 1), (2, 39),
    (9, 0), (9, 9), (9, 10),
    (10, 0), (10, 1), (10, 39),
    (11, 0),
    (GREAT - 1, 0), (GREAT - 1, 39),
    (GREAT, 0), (GREAT, 1), (GREAT, 9), (GREAT, 10), (GREAT, 39),
    (GREAT + 1, 0),
]


class Less(unittest.TestCase):
    def check(self, lesser, greater):
        """The answer is True or False itself, each pair either way round."""
        self.assertIs(less(lesser, greater), True)
        self.assertIs(less(greater, lesser), False)

    def test_the_less_number_is_less(self):
        self.check((1, 0), (2, 0))
        self.check((3, 2), (4, 2))
        self.check((9, 1), (10, 1))

    def test_the_number_goes_before_the_hand(self):
        self.check((1, 5), (2, 0))
        self.check((1, 39), (2, 1))
        self.check((1, 3), (4, 2))

    def test_of_the_same_number_the_less_hand_is_less(self):
        self.check((1, 0), (1, 1))
        self.check((7, 2), (7, 3))
        self.check((7, 9), (7, 10))

    def test_a_mark_is_not_less_than_itself(self):
        for mark in RISING:
            with self.subTest(mark=mark):
                self.assertIs(less(mark, mark), False)
                self.assertIs(less(mark, (mark[0], mark[1])), False)

    def test_very_great_numbers(self):
        self.check((GREAT - 1, 0), (GREAT, 0))
        self.check((GREAT - 1, 39), (GREAT, 0))
        self.check((GREAT, 0), (GREAT, 1))
        self.check((1, 39), (GREAT, 0))

    def test_a_hand_may_be_very_great_too(self):
        self.check((5, GREAT - 1), (5, GREAT))
        self.check((5, GREAT), (6, 0))

    def test_all_pairs_of_a_rising_row(self):
        for lesser, greater in itertools.combinations(RISING, 2):
            with self.subTest(lesser=lesser, greater=greater):
                self.check(lesser, greater)


class Greatest(unittest.TestCase):
    def check(self, marks, wanted):
        before = list(marks)
        told = greatest(marks)
        self.assertEqual(told, wanted)
        self.assertIs(type(told), tuple)
        self.assertEqual(marks, before)

    def test_of_one_mark(self):
        for mark in RISING:
            with self.subTest(mark=mark):
                self.check([mark], mark)

    def test_the_greatest_one_first(self):
        self.check([(5, 1), (3, 2), (4, 0)], (5, 1))

    def test_the_greatest_one_last(self):
        self.check([(3, 2), (4, 0), (5, 1)], (5, 1))

    def test_the_greatest_one_in_the_middle(self):
        self.check([(3, 2), (5, 1), (4, 0)], (5, 1))

    def test_the_number_goes_before_the_hand(self):
        self.check([(1, 39), (2, 0), (1, 5)], (2, 0))

    def test_marks_of_the_same_number_by_other_hands(self):
        for marks in itertools.permutations([(4, 0), (4, 1), (4, 9), (4, 10)]):
            with self.subTest(marks=marks):
                self.check(list(marks), (4, 10))

    def test_like_marks(self):
        self.check([(2, 1), (2, 1)], (2, 1))
        self.check([(2, 1), (2, 1), (2, 1)], (2, 1))
        self.check([(3, 0), (2, 1), (3, 0), (1, 1)], (3, 0))
        self.check([(2, 1), (3, 0), (2, 1)], (3, 0))

    def test_every_order_of_five_marks(self):
        for marks in itertools.permutations([(1, 3), (2, 0), (2, 2), (9, 1), (10, 0)]):
            with self.subTest(marks=marks):
                self.check(list(marks), (10, 0))

    def test_very_great_numbers(self):
        self.check([(GREAT - 1, 5), (GREAT, 0), (1, 39)], (GREAT, 0))
        self.check([(GREAT, 1), (GREAT, 0), (GREAT - 1, 2)], (GREAT, 1))

    def test_of_many_marks(self):
        self.check(list(RISING), RISING[-1])
        self.check(RISING[::-1], RISING[-1])
        self.check(RISING[10:] + RISING[:10], RISING[-1])


if __name__ == "__main__":
    unittest.main()
