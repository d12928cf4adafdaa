import unittest

import helpers as h


class ProductTest(unittest.TestCase):
    def check_all_pairs(self, machine):
        found = h.first_words(machine)
        numbers = {row: e for e, row in enumerate(found)}
        words = list(found.values())
        pairs = [(a, b) for a in range(len(words)) for b in range(len(words))]
        told = h.ask_in_parts(machine, [h.product(0, a, b) for a, b in pairs])
        self.assertEqual(told, [[numbers[h.does(machine, words[a] + words[b])]] for a, b in pairs])
        return {pair: answer for pair, answer in zip(pairs, told)}

    def test_all_pairs_of_machines_that_are_not_commutative(self):
        for machine in [h.RESETS, h.ALL_MAPS_OF_3, h.OF_16, h.OF_17]:
            table = self.check_all_pairs(machine)
            self.assertTrue(any(table[a, b] != table[b, a] for a, b in table))

    def test_all_pairs_of_other_machines(self):
        for machine in [h.ONE_STATE, h.SWAP, h.CHAIN_OF_12, h.TAIL_AND_CYCLE]:
            self.check_all_pairs(machine)

    def test_by_hand(self):
        told = h.ask(h.begin(1, h.RESETS), h.product(1, 1, 2), h.product(1, 2, 1), h.product(1, 0, 2))
        self.assertEqual(told, [[0], [2], [1], [2]])

    def test_pairs_of_a_large_machine(self):
        machine = h.JUST_4096
        pairs = [(4095, 4095), (4095, 1), (1, 4095), (0, 4095), (4095, 0), (2048, 3000), (3000, 2048)]
        for a, b in pairs:
            words = [answer[1:] for answer in h.ask(h.begin(0, machine), h.word(0, a), h.word(0, b))[1:]]
            told = h.ask(h.begin(0, machine), h.product(0, a, b), h.of(0, words[0] + words[1]))
            self.assertEqual(told[1], told[2])

    def test_what_is_no_element_is_refused_on_either_side(self):
        for machine, n in [(h.ONE_STATE, 1), (h.SWAP, 2), (h.JUST_4096, 4096)]:
            calls = []
            for wrong in h.no_elements(n):
                for good in [0, n - 1]:
                    calls += [h.product(0, wrong, good), h.product(0, good, wrong)]
                calls.append(h.product(0, wrong, wrong))
            told = h.ask_in_parts(machine, calls)
            self.assertEqual(told, [[-2]] * len(calls))

    def test_a_refusal_changes_nothing(self):
        told = h.ask(h.begin(0, h.SWAP), h.product(0, 2, 1), h.product(0, 1, 2), h.product(0, 1, 1), h.size(0))
        self.assertEqual(told, [[0], [-2], [-2], [0], [2]])


if __name__ == "__main__":
    unittest.main()
