"""What a machine takes in from a start to its ends, and which elements are alike for it."""

from wordalgebra.algebra import Refused, compose
from wordalgebra.graphs import numbered


class Language:
    def __init__(self, algebra, start, ends):
        rows = algebra.rows
        q = len(rows[0])
        if start < 0 or start >= q or ends >> q != 0:
            raise Refused()
        # Where words put before can lead: other states play no part.
        self.reached = sorted(set([row[start] for row in rows]))
        taken_in = [(ends >> s) & 1 for s in range(q)]
        # Two states have one fate if no word put behind tells them apart.
        self.fates = numbered([tuple([taken_in[row[s]] for row in rows]) for s in range(q)])

    def mark(self, row):
        """Elements are alike just where their marks are the same."""
        return tuple([self.fates[row[s]] for s in self.reached])


def alike_classes(algebra, start, ends):
    """Of each element the number of its class of alikes."""
    language = Language(algebra, start, ends)
    return numbered([language.mark(row) for row in algebra.rows])


# A state is led into a circle in fewer than q steps, so from the q-th power on
# powers come again: one of them stands for all where it's alike to the next.
def high_power(row):
    exponent = 1
    while exponent < len(row):
        row = compose(row, row)
        exponent *= 2
    return row


def find_turns(algebra):
    """The high powers that are not their next powers, with these."""
    turns = {}
    for row in algebra.rows:
        high = high_power(row)
        higher = compose(high, row)
        if high != higher:
            turns[(high, higher)] = True
    return list(turns)


def is_free(algebra, start, ends):
    language = Language(algebra, start, ends)
    for high, higher in algebra.once("turns", find_turns):
        if language.mark(high) != language.mark(higher):
            return 0
    return 1
