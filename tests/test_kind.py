import unittest

import helpers as h

WORTHS = [1, 2, 4, 8, 16, 32, 64, 128, 256]


def comes_to_rest(products, a):
    """Whether some power is the next one; none is new behind as many as there are elements."""
    power = a
    for exponent in range(len(products)):
        if products[power][a] == power:
            return True
        power = products[power][a]
    return False


def inverses(products, a):
    """The b with a b a = a, and those of them with b a b = b."""
    every = range(len(products))
    weak = [b for b in every if products[products[a][b]][a] == a]
    return weak, [b for b in weak if products[products[b][a]][b] == b]


def plain_kind(products):
    """The sum from a search straight from the promise's words."""
    n = len(products)
    every = range(n)
    holds = {
        1: all(products[a][b] == products[b][a] for a in every for b in every),
        2: all(products[a][a] == a for a in every),
        4: all(any(products[a][b] == 0 for b in every) for a in every),
        8: all(comes_to_rest(products, a) for a in every),
        16: h.plain_classes(products, 2)[0] == n,
        32: h.plain_classes(products, 1)[0] == n,
        64: h.plain_classes(products, 0)[0] == n,
        128: all(inverses(products, a)[0] for a in every),
        256: all(len(inverses(products, a)[1]) == 1 for a in every),
    }
    return sum(worth for worth in holds if holds[worth])


class KindTest(unittest.TestCase):
    def kind(self, machine):
        told = h.ask(h.begin(0, machine), h.kind(0))[1]
        self.assertEqual(len(told), 1)
        return told[0]

    def test_by_hand(self):
        self.assertEqual(self.kind(h.ONE_STATE), 511)
        self.assertEqual(self.kind(h.SWAP), 1 + 4 + 128 + 256)
        self.assertEqual(self.kind(h.CYCLES_OF_3_4_5), 1 + 4 + 128 + 256)
        self.assertEqual(self.kind(h.ALL_SWAPS_OF_3), 4 + 128 + 256)
        self.assertEqual(self.kind(h.RESETS), 2 + 8 + 64 + 128)
        self.assertEqual(self.kind(h.machine_of([0, 0, 0], [1, 1, 1], [2, 2, 2])), 2 + 8 + 64 + 128)
        self.assertEqual(self.kind(h.machine_of([1, 1])), 511 - 4)
        self.assertEqual(self.kind(h.FIRST_STAYS), 2 + 8 + 32 + 128)
        self.assertEqual(self.kind(h.UNDONE_OR_LOST), 8 + 128 + 256)
        self.assertEqual(self.kind(h.TWO_SINKS), 511 - 4)
        self.assertEqual(self.kind(h.CHAIN_OF_12), 1 + 8 + 16 + 32 + 64)
        self.assertEqual(self.kind(h.TAIL_AND_CYCLE), 1)
        self.assertEqual(self.kind(h.ALL_MAPS_OF_3), 128)
        self.assertEqual(self.kind(h.OF_17), 0)

    def test_against_a_plain_search_with_each_number_in_and_out(self):
        sums = set()
        for machine in h.SEARCHED_MACHINES:
            told = self.kind(machine)
            self.assertEqual(told, plain_kind(h.table(machine)), machine)
            sums.add(told)
        for worth in WORTHS:
            self.assertEqual({told & worth for told in sums}, {0, worth})

    def test_more_than_one_b_with_b_a_b_too(self):
        for machine in [h.RESETS, h.FIRST_STAYS, h.ALL_MAPS_OF_3]:
            products = h.table(machine)
            self.assertTrue(any(len(inverses(products, a)[1]) > 1 for a in range(len(products))))
            self.assertEqual(self.kind(machine) & 384, 128)

    def test_one_b_with_b_a_b_too_among_several(self):
        products = h.table(h.TWO_SINKS)
        self.assertTrue(any(len(inverses(products, a)[0]) > 1 for a in range(len(products))))
        self.assertEqual(self.kind(h.TWO_SINKS) & 384, 384)

    def test_large_machines(self):
        self.assertEqual(self.kind(h.ALL_MAPS_OF_5), 128)
        self.assertEqual(self.kind(h.JUST_4096), self.kind(h.OF_16))
        self.assertEqual(self.kind(h.beside(*[h.machine_of([0, 0])] * 6)), 511 - 4)
        swaps = h.machine_of([1, 2, 3, 4, 5, 0], [1, 0, 2, 3, 4, 5])
        self.assertEqual(self.kind(h.beside(swaps, h.SWAP)), 4 + 128 + 256)
        self.assertEqual(self.kind(h.beside(swaps, h.machine_of([0, 0]))), 128 + 256)
        self.assertEqual(self.kind(h.beside(h.UNDONE_OR_LOST, h.UNDONE_OR_LOST, h.UNDONE_OR_LOST)), 8 + 128 + 256)

    def test_both_machines_and_asked_again(self):
        told = h.ask(h.begin(0, h.SWAP), h.begin(1, h.RESETS), h.kind(0), h.kind(1), h.kind(0), h.kind(1))
        self.assertEqual(told[2:], [[389], [202], [389], [202]])


if __name__ == "__main__":
    unittest.main()
