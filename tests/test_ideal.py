import unittest

import helpers as h


def plain_ideal(products):
    """The answer from a search for x and y, of each a and each b."""
    every = range(len(products))
    comes_to = [{products[products[x][b]][y] for x in every for y in every} for b in every]
    marks = [1 if all(a in comes_to[b] for b in every) else 0 for a in every]
    return [sum(marks)] + marks


class IdealTest(unittest.TestCase):
    def ideal(self, machine):
        return h.ask(h.begin(0, machine), h.ideal(0))[1]

    def test_one_element(self):
        self.assertEqual(self.ideal(h.ONE_STATE), [1, 1])
        self.assertEqual(self.ideal(h.machine_of([1, 1])), [1, 0, 1])
        self.assertEqual(self.ideal(h.UNDONE_OR_LOST), [1, 0, 0, 0, 1, 0, 0])
        self.assertEqual(self.ideal(h.CHAIN_OF_12), [1] + [0] * 11 + [1])

    def test_several_elements(self):
        self.assertEqual(self.ideal(h.RESETS), [2, 0, 1, 1])
        self.assertEqual(self.ideal(h.FIRST_STAYS), [2, 0, 1, 1])
        self.assertEqual(self.ideal(h.TAIL_AND_CYCLE), [3, 0, 0, 1, 1, 1])
        self.assertEqual(self.ideal(h.STILL_AND_TURNING), [2, 0, 1, 1])

    def test_all_elements(self):
        self.assertEqual(self.ideal(h.SWAP), [2, 1, 1])
        self.assertEqual(self.ideal(h.ALL_SWAPS_OF_3), [6] + [1] * 6)
        self.assertEqual(self.ideal(h.CYCLES_OF_3_4_5), [60] + [1] * 60)

    def test_against_a_plain_search(self):
        for machine in h.SEARCHED_MACHINES:
            self.assertEqual(self.ideal(machine), plain_ideal(h.table(machine)), machine)

    def test_large_machines(self):
        rows = h.rows_in_order(h.ALL_MAPS_OF_5)
        self.assertEqual(self.ideal(h.ALL_MAPS_OF_5), [5] + [1 if len(set(row)) == 1 else 0 for row in rows])
        # An element of three machines that don't touch is come to just where all its parts are.
        small = dict(zip(h.first_words(h.OF_16), plain_ideal(h.table(h.OF_16))[1:]))
        marks = []
        for row in h.rows_in_order(h.JUST_4096):
            marks.append(min(small[tuple(place - start for place in row[start:start + 4])] for start in (0, 4, 8)))
        self.assertEqual(self.ideal(h.JUST_4096), [sum(marks)] + marks)

    def test_both_machines(self):
        told = h.ask(h.begin(0, h.SWAP), h.begin(1, h.RESETS), h.ideal(1), h.ideal(0))
        self.assertEqual(told[2:], [[2, 0, 1, 1], [2, 1, 1]])


if __name__ == "__main__":
    unittest.main()
