"""Marks and their order. A mark is a tuple (number, hand)."""

# Tuples compare by their first items, and by the next ones only where those
# are the same: just the order of marks, the number first and then the hand.


def less(one, other):
    """Whether the mark one is less than the mark other."""
    return one < other


def greatest(marks):
    """The greatest of a list of marks, of which there is one at least."""
    return max(marks)
