"""Mails written as texts, and such texts read."""

from onebell.errors import NoNote

MOST_FIGURES = 30

# The words of a mail, and whether a mail of that word has a mark.
MARKED = {"letter": False, "number": True, "mark": True}


def shown(mail):
    """The text of a mail."""
    word, letter, origin, hand, mark = mail
    text = f"{word} {letter} from {origin} to {hand}"
    if mark is None:
        return text
    number, proposer = mark
    return f"{text}: {number} of {proposer}"


def read(text):
    """The mail that a text tells."""
    head, colon, tail = text.partition(": ")
    parts = head.split(" ")
    if len(parts) != 6 or parts[2] != "from" or parts[4] != "to":
        raise NoNote("a note begins with WORD LETTER from HAND to HAND")
    word = parts[0]
    if word not in MARKED:
        raise NoNote("a mail's word is letter, number or mark")
    if MARKED[word] != (colon != ""):
        raise NoNote("a letter has no mark, a number and a mark have one")
    mark = _read_mark(tail) if MARKED[word] else None
    return (word, _read_number(parts[1]), _read_number(parts[3]), _read_number(parts[5]), mark)


def _read_mark(text):
    parts = text.split(" ")
    if len(parts) != 3 or parts[1] != "of":
        raise NoNote("a mark is written as NUMBER of HAND")
    number = _read_number(parts[0])
    if number == 0:
        raise NoNote("the number of a mark is 1 at least")
    return (number, _read_number(parts[2]))


def _read_number(figures):
    # isdigit alone also takes figures of other scripts.
    if not figures.isascii() or not figures.isdigit():
        raise NoNote("a number is written by its figures alone")
    if len(figures) > MOST_FIGURES:
        raise NoNote("a number has thirty figures at most")
    if figures[0] == "0" and figures != "0":
        raise NoNote("a number is written without a nought ahead")
    return int(figures)
