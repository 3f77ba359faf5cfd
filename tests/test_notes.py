"""Point 12: how a mail is written, and which texts are read."""

import unittest

from onebell import errors
from onebell.errors import BellError, NoNote
from onebell.house import House
from onebell.notes import read, shown

THIRTY = int("9" * 30)
ONE_OF_THIRTY = 10 ** 29

WRITTEN = (
    (("letter", 0, 0, 1, None), "letter 0 from 0 to 1"),
    (("letter", 12, 39, 0, None), "letter 12 from 39 to 0"),
    (("letter", 5, 3, 3, None), "letter 5 from 3 to 3"),
    (("number", 0, 1, 0, (1, 1)), "number 0 from 1 to 0: 1 of 1"),
    (("number", 7, 10, 20, (30, 10)), "number 7 from 10 to 20: 30 of 10"),
    (("mark", 0, 0, 1, (1, 0)), "mark 0 from 0 to 1: 1 of 0"),
    (("mark", 10, 2, 39, (100, 38)), "mark 10 from 2 to 39: 100 of 38"),
    (
        ("letter", THIRTY, ONE_OF_THIRTY, THIRTY - 1, None),
        f"letter {'9' * 30} from 1{'0' * 29} to {'9' * 29}8",
    ),
    (
        ("number", ONE_OF_THIRTY, THIRTY, 0, (THIRTY, ONE_OF_THIRTY)),
        f"number 1{'0' * 29} from {'9' * 30} to 0: {'9' * 30} of 1{'0' * 29}",
    ),
    (
        ("mark", 0, 0, THIRTY, (ONE_OF_THIRTY, THIRTY)),
        f"mark 0 from 0 to {'9' * 30}: 1{'0' * 29} of {'9' * 30}",
    ),
)

PLAIN = "letter 1 from 2 to 3"
MARKED = ("number 1 from 2 to 3: 4 of 5", "mark 1 from 2 to 3: 4 of 5")


def with_part(text, figures, put):
    """The text with one of its numbers, which all differ, put otherwise."""
    assert text.count(figures) == 1
    return text.replace(figures, put)


class NoteCase(unittest.TestCase):
    def check_refused(self, text):
        with self.subTest(text=text):
            with self.assertRaises(NoNote) as held:
                read(text)
            self.assertIsInstance(held.exception, BellError)
            for name in ("BadCount", "NoHand", "NoLetter", "NoMail", "Twice", "NotOpen", "BadMark"):
                self.assertNotIsInstance(held.exception, getattr(errors, name))

    def check_number_refused(self, put):
        """A number so put is refused, in whatever place it stands."""
        for figures in "123":
            self.check_refused(with_part(PLAIN, figures, put))
        for text in MARKED:
            for figures in "12345":
                self.check_refused(with_part(text, figures, put))

    def check_mail(self, told, mail):
        self.assertEqual(told, mail)
        self.assertIs(type(told), tuple)
        self.assertEqual([type(part) for part in told[:4]], [str, int, int, int])
        if mail[4] is None:
            self.assertIsNone(told[4])
        else:
            self.assertIs(type(told[4]), tuple)
            self.assertEqual([type(part) for part in told[4]], [int, int])


class Shown(NoteCase):
    def test_each_word_with_and_without_a_mark(self):
        for mail, text in WRITTEN:
            with self.subTest(text=text):
                self.assertEqual(shown(mail), text)
                self.assertIs(type(shown(mail)), str)


class Read(NoteCase):
    def test_each_word_with_and_without_a_mark(self):
        for mail, text in WRITTEN:
            with self.subTest(text=text):
                self.check_mail(read(text), mail)

    def test_numbers_of_one_to_thirty_figures_in_each_place(self):
        for count in range(1, 31):
            figures = "7" * count
            for text in (PLAIN,) + MARKED:
                for at, old in enumerate("123" if text == PLAIN else "12345"):
                    told = read(with_part(text, old, figures))
                    self.assertEqual((told[1:4] + (told[4] or ()))[at], int(figures))

    def test_nought_in_each_place_but_a_marks_number(self):
        for text in (PLAIN,) + MARKED:
            for at, old in enumerate("123"):
                self.assertEqual(read(with_part(text, old, "0"))[at + 1], 0)
        for text in MARKED:
            self.assertEqual(read(with_part(text, "5", "0"))[4], (4, 0))
            self.assertEqual(read(with_part(text, "4", "1"))[4], (1, 5))

    def test_hands_and_letters_are_not_limited_to_a_house(self):
        self.check_mail(read("letter 99 from 40 to 41"), ("letter", 99, 40, 41, None))
        self.check_mail(read("mark 3 from 7 to 7: 5 of 99"), ("mark", 3, 7, 7, (5, 99)))


class RoundTrip(NoteCase):
    def check(self, mail):
        self.check_mail(read(shown(mail)), mail)

    def test_what_shown_wrote_is_read_to_that_mail(self):
        numbers = (0, 1, 9, 10, 39, 101, ONE_OF_THIRTY, THIRTY)
        for letter in numbers:
            for hand in numbers:
                self.check(("letter", letter, hand, letter, None))
                self.check(("letter", 4, letter, hand, None))
                for word in ("number", "mark"):
                    self.check((word, letter, hand, 2, (3, hand)))
                    self.check((word, 0, letter, hand, (hand + (hand == 0), letter)))

    def test_the_mails_of_a_house(self):
        told = House(4)
        for hand in (2, 0, 3, 3, 1):
            told.send(hand, "x")
        words = {}
        while told.mails():
            mail = told.bring(len(told.mails()) * 2 // 3)
            self.check(mail)
            words[mail[0]] = words.get(mail[0], 0) + 1
        self.assertEqual(words, {"letter": 15, "number": 15, "mark": 15})

    def test_what_is_read_is_written_as_it_stood(self):
        for _, text in WRITTEN:
            self.assertEqual(shown(read(text)), text)


class Refused(NoteCase):
    def test_a_nought_ahead(self):
        for put in ("01", "00", "007", "0" * 29 + "1", "0" * 30, "0" * 31):
            self.check_number_refused(put)

    def test_more_than_thirty_figures(self):
        for put in ("1" + "0" * 30, "9" * 31, "1" * 100, "1" * 5000, "0" * 5000):
            self.check_number_refused(put)

    def test_an_empty_number(self):
        self.check_number_refused("")

    def test_a_sign_ahead(self):
        for put in ("-1", "+1", "-0", "+0", "--1", "-"):
            self.check_number_refused(put)

    def test_what_is_no_row_of_figures(self):
        for put in (
            "x", "1x", "x1", "1.0", "1.", "1e3", "0x1", "1_000", "1,000", "True", "None", "one",
            "(1)", "1:", ":1", "1;", "1 1", "\u0661", "\u00b2", "\uff11", "1\u0661", "1\n", "\n1", "\t1",
        ):
            self.check_number_refused(put)

    def test_a_marks_number_of_nought(self):
        for text in MARKED:
            self.check_refused(with_part(text, "4", "0"))
        self.check_refused("mark 0 from 0 to 0: 0 of 0")

    def test_a_missing_or_another_sign_for_the_colon(self):
        for text in MARKED:
            for put in (
                " ", ";", "; ", ", ", ". ", "- ", " - ", ":", ":: ", ":  ", " : ", " :", " :: ",
                ": : ", ":: : ", "", ":\n", ":\t",
            ):
                self.check_refused(text.replace(": ", put))

    def test_two_marks_or_two_mails(self):
        for text in MARKED:
            self.check_refused(text + ": 4 of 5")
            self.check_refused(text + " of 5")
            self.check_refused(text + ":")
            self.check_refused(text + ": ")
            self.check_refused(text + " " + PLAIN)
            self.check_refused(text + "\n" + text)
        self.check_refused(PLAIN + " " + PLAIN)
        self.check_refused(PLAIN + ": " + PLAIN)
        self.check_refused(PLAIN + " to 3")

    def test_a_blank_too_many_or_too_few(self):
        for text in (PLAIN,) + MARKED:
            for at, sign in enumerate(text):
                if sign == " ":
                    self.check_refused(text[:at] + text[at + 1:])
                    self.check_refused(text[:at] + " " + text[at:])
                    self.check_refused(text[:at] + "\t" + text[at + 1:])
                    self.check_refused(text[:at] + "\u00a0" + text[at + 1:])

    def test_a_blank_ahead_or_behind(self):
        for text in (PLAIN,) + MARKED:
            for blank in (" ", "  ", "\n", "\t", "\r", "\x0b", "\u00a0"):
                self.check_refused(blank + text)
                self.check_refused(text + blank)

    def test_each_sign_left_out_or_put_in(self):
        for text in (PLAIN,) + MARKED:
            for at, sign in enumerate(text):
                self.check_refused(text[:at] + text[at + 1:])
                for put in ("x", ":", "-", " ", "\n"):
                    self.check_refused(text[:at] + put + text[at:])
            for put in ("x", ":", "-", " ", "\n"):
                self.check_refused(text + put)

    def test_other_words(self):
        for put in ("", "Letter", "LETTER", "letters", "lette", "mail", "None", "0", "word", "letter:"):
            self.check_refused(PLAIN.replace("letter", put))
        for text in MARKED:
            for put in ("", "Number", "NUMBER", "Mark", "MARK", "marks", "num", "mail", "None", "0"):
                self.check_refused(put + text[text.index(" "):])
        for old, puts in (
            ("from", ("", "From", "FROM", "of", "to", "by", "form")),
            ("to", ("", "To", "TO", "from", "of", "for", "too")),
            ("of", ("", "Of", "OF", "from", "to", "by", "off")),
        ):
            for text in (PLAIN,) + MARKED:
                if old in text:
                    for put in puts:
                        self.check_refused(text.replace(old, put))

    def test_words_in_other_places(self):
        self.check_refused("letter 1 to 3 from 2")
        self.check_refused("1 letter from 2 to 3")
        self.check_refused("letter from 2 to 3")
        self.check_refused("from 2 to 3")
        self.check_refused("letter 1 from 2")
        self.check_refused("letter 1 from 2 to")
        self.check_refused("letter 1 from to 3")
        self.check_refused("number 1: 4 of 5 from 2 to 3")
        self.check_refused("number 1 from 2 to 3: 5 from 4")
        self.check_refused("4 of 5: number 1 from 2 to 3")
        self.check_refused("number 1 from 2 to 3: of 5")
        self.check_refused("number 1 from 2 to 3: 4 of")
        self.check_refused("number 1 from 2 to 3: 4")
        self.check_refused("number 1 from 2 to 3: 4 5")

    def test_a_letter_with_a_mark(self):
        self.check_refused("letter 1 from 2 to 3: 4 of 5")
        self.check_refused("letter 0 from 0 to 1: 1 of 0")
        self.check_refused("letter 1 from 2 to 3:")
        self.check_refused("letter 1 from 2 to 3: ")
        self.check_refused("letter 1 from 2 to 3: None")

    def test_a_number_or_a_mark_without_one(self):
        for word in ("number", "mark"):
            self.check_refused(f"{word} 1 from 2 to 3")
            self.check_refused(f"{word} 1 from 2 to 3:")
            self.check_refused(f"{word} 1 from 2 to 3: ")
            self.check_refused(f"{word} 1 from 2 to 3: None")

    def test_the_empty_text_and_other_texts(self):
        for text in (
            "", " ", ":", ": ", "0", "letter", "number", "mark", "hello", "     ", "      : ",
            "letter  from  to ", "('letter', 1, 2, 3, None)", "letter 1 from 2 to 3.",
            "letter,1,from,2,to,3", "letter1from2to3", "~" * 100, " " * 100, ": " * 100, "9" * 100,
        ):
            self.check_refused(text)


if __name__ == "__main__":
    unittest.main()
