import unittest

import helpers as h


def stays(products, z):
    """Whether z a = z for all a."""
    return all(products[z][a] == z for a in range(len(products)))


def swallows(products, z):
    """Whether a z = z for all a."""
    return all(products[a][z] == z for a in range(len(products)))


def plain_zero(products):
    zeros = [z for z in range(len(products)) if stays(products, z) and swallows(products, z)]
    return zeros[0] if zeros else -1


class ZeroTest(unittest.TestCase):
    def check(self, machine, told):
        self.assertEqual(h.ask(h.begin(0, machine), h.zero(0)), [[0], [told]], machine)
        self.assertEqual(h.ask(h.begin(1, machine), h.zero(1)), [[0], [told]], machine)

    def test_machines_with_a_zero(self):
        self.check(h.ONE_STATE, 0)
        self.check(h.machine_of([0, 1, 2], [0, 1, 2]), 0)
        self.check(h.machine_of([1, 1]), 1)
        self.check(h.UNDONE_OR_LOST, 3)
        self.check(h.CHAIN_OF_12, 11)
        self.check(h.TWO_SINKS, 3)

    def test_machines_without(self):
        self.check(h.SWAP, -1)
        self.check(h.ALL_SWAPS_OF_3, -1)
        self.check(h.TAIL_AND_CYCLE, -1)
        self.check(h.ALL_MAPS_OF_3, -1)

    def test_what_is_a_zero_on_one_side_alone_is_none(self):
        products = h.table(h.FIRST_STAYS)
        self.assertTrue(stays(products, 1) and not swallows(products, 1))
        self.check(h.FIRST_STAYS, -1)
        products = h.table(h.RESETS)
        self.assertTrue(swallows(products, 1) and not stays(products, 1))
        self.check(h.RESETS, -1)

    def test_against_a_plain_search(self):
        for machine in h.SEARCHED_MACHINES:
            self.check(machine, plain_zero(h.table(machine)))

    def test_large_machines(self):
        self.check(h.ALL_MAPS_OF_5, -1)
        sinks = h.beside(*[h.machine_of([1, 1])] * 6)
        self.check(sinks, 63)
        chain = h.machine_of([1, 2, 3, 3])
        lost = h.beside(h.UNDONE_OR_LOST, h.UNDONE_OR_LOST, chain)
        rows = h.rows_in_order(lost)
        self.assertEqual(len(rows), 144)
        self.check(lost, rows.index((2, 2, 2, 5, 5, 5, 9, 9, 9, 9)))


if __name__ == "__main__":
    unittest.main()
