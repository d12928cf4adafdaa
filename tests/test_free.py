import unittest

import helpers as h


def plain_free(rows, products, start, ends):
    """The answer from the powers of each element, as many as there are elements and one more."""
    alike = h.plain_says(rows, products, start, ends)[1:]
    for a in range(len(products)):
        powers = [a]
        while len(powers) <= len(products) + 1:
            powers.append(products[powers[-1]][a])
        if all(alike[power] != alike[later] for power, later in zip(powers, powers[1:])):
            return 0
    return 1


class FreeTest(unittest.TestCase):
    def free(self, machine, start, ends):
        told = h.ask(h.begin(0, machine), h.free(0, start, ends))[1]
        self.assertEqual(len(told), 1)
        return told[0]

    def test_by_hand(self):
        self.assertEqual(self.free(h.SWAP, 0, 1), 0)
        self.assertEqual(self.free(h.SWAP, 1, 1), 0)
        self.assertEqual(self.free(h.SWAP, 0, 0), 1)
        self.assertEqual(self.free(h.SWAP, 0, 3), 1)
        self.assertEqual(self.free(h.RESETS, 0, 2), 1)
        self.assertEqual(self.free(h.ONE_STATE, 0, 1), 1)
        self.assertEqual(self.free(h.CYCLES_OF_3_4_5, 0, 1), 0)
        self.assertEqual(self.free(h.CYCLES_OF_3_4_5, 0, 7), 1)
        self.assertEqual(self.free(h.CYCLES_OF_3_4_5, 3, 5), 1)
        self.assertEqual(self.free(h.CYCLES_OF_3_4_5, 3, 8 + 32), 0)
        self.assertEqual(self.free(h.CYCLES_OF_3_4_5, 11, 128), 0)
        self.assertEqual(self.free(h.CHAIN_OF_12, 0, 2730), 1)

    def test_every_start_and_ends_against_a_plain_search(self):
        seen = set()
        machines = h.EVERY_MACHINE_OF_2 + h.EVERY_MACHINE_OF_3[2::4]
        machines += [h.ALL_MAPS_OF_3, h.OF_16, h.OF_17, h.UNDONE_OR_LOST, h.STILL_AND_TURNING, h.TAIL_AND_CYCLE]
        for machine in machines:
            rows = list(h.first_words(machine))
            products = h.table(machine)
            pairs = [(start, ends) for start in range(machine[0]) for ends in range(1 << machine[0])]
            told = h.ask_in_parts(machine, [h.free(0, start, ends) for start, ends in pairs])
            self.assertEqual(told, [[plain_free(rows, products, start, ends)] for start, ends in pairs], machine)
            seen.update(answer[0] for answer in told)
        self.assertEqual(seen, {0, 1})

    def test_free_for_some_ends_where_the_8_is_not_in_the_kind(self):
        machine = h.STILL_AND_TURNING
        self.assertEqual(h.ask(h.begin(0, machine), h.kind(0))[1][0] & 8, 0)
        self.assertEqual(h.ask(h.begin(0, machine), h.says(0, 0, 2))[1][0], 2)
        self.assertEqual(self.free(machine, 0, 2), 1)
        self.assertEqual(self.free(machine, 2, 4), 0)
        self.assertEqual(self.free(machine, 2, 12), 1)

    def test_free_for_all_where_the_8_is_in_the_kind(self):
        for machine in [h.RESETS, h.OF_16, h.UNDONE_OR_LOST, h.FIRST_STAYS]:
            self.assertEqual(h.ask(h.begin(0, machine), h.kind(0))[1][0] & 8, 8)
            for start in range(machine[0]):
                for ends in range(1 << machine[0]):
                    self.assertEqual(self.free(machine, start, ends), 1)

    def test_a_turn_at_the_end_of_the_longest_tail(self):
        # 10 states lead one to the next and then to 2 that turn.
        machine = h.machine_of([1, 2, 3, 4, 5, 6, 7, 8, 9, 10, 11, 10])
        self.assertEqual(self.free(machine, 0, 1 << 11), 0)
        self.assertEqual(self.free(machine, 0, 3 << 10), 1)
        self.assertEqual(self.free(machine, 0, 1 << 9), 1)
        self.assertEqual(self.free(h.CHAIN_OF_12, 0, 1 << 10), 1)

    def test_large_machines(self):
        self.assertEqual(self.free(h.ALL_MAPS_OF_5, 0, 1), 0)
        self.assertEqual(self.free(h.ALL_MAPS_OF_5, 0, 31), 1)
        self.assertEqual(self.free(h.JUST_4096, 0, 0x111), 1)
        # The first states of this one never turn, the last two do.
        machine = h.beside(h.OF_16, h.OF_16, h.SWAP)
        self.assertEqual(self.free(machine, 0, 1), 1)
        self.assertEqual(self.free(machine, 7, 0x80), 1)
        self.assertEqual(self.free(machine, 8, 0x100), 0)
        self.assertEqual(self.free(machine, 8, 0x2ff), 0)
        self.assertEqual(self.free(machine, 8, 0x3ff), 1)

    def test_wrong_starts_and_ends_are_refused_and_change_nothing(self):
        for machine in [h.ONE_STATE, h.SWAP, h.OF_16, h.CHAIN_OF_12]:
            q = machine[0]
            calls = [h.free(0, start, ends) for start in h.wrong_starts(q) for ends in (0, 1)]
            calls += [h.free(0, start, ends) for start in (0, q - 1) for ends in h.wrong_ends(q)]
            calls += [h.free(0, -1, 1 << q), h.free(0, q, (1 << 32) - 1)]
            self.assertEqual(h.ask_in_parts(machine, calls), [[-2]] * len(calls))
            good = h.free(0, q - 1, 1 << (q - 1))
            told = h.ask(h.begin(0, machine), good, h.free(0, q, 0), h.free(0, 0, 1 << q), good)
            self.assertEqual(told, [[0], told[1], [-2], [-2], told[1]])

    def test_both_machines(self):
        told = h.ask(h.begin(0, h.SWAP), h.begin(1, h.RESETS), h.free(1, 0, 1), h.free(0, 0, 1), h.free(0, 2, 1))
        self.assertEqual(told[2:], [[1], [0], [-2]])


if __name__ == "__main__":
    unittest.main()
