import unittest

import helpers as h


class SizeTest(unittest.TestCase):
    def check(self, machine, n):
        self.assertEqual(h.ask(h.begin(0, machine), h.size(0)), [[0], [n]])
        self.assertEqual(h.ask(h.begin(1, machine), h.size(1)), [[0], [n]])

    def test_machines_counted_by_hand(self):
        self.check(h.ONE_STATE, 1)
        self.check(h.machine_of([0], [0], [0]), 1)
        self.check(h.machine_of([0, 1], [0, 1]), 1)
        self.check(h.SWAP, 2)
        self.check(h.RESETS, 3)
        self.check(h.machine_of([1, 0], [0, 0]), 4)
        self.check(h.ALL_MAPS_OF_3, 27)
        self.check(h.ALL_MAPS_OF_5, 3125)
        self.check(h.CYCLES_OF_3_4_5, 60)
        self.check(h.CHAIN_OF_12, 12)
        self.check(h.TAIL_AND_CYCLE, 5)

    def test_step_is_read_state_by_state(self):
        # Read letter by letter these steps would be a swap and a swap, of 2 elements.
        self.check((2, 2, [1, 0, 1, 0]), 3)

    def test_against_a_second_count(self):
        for seed in range(60):
            machine = h.random_machine(seed, 1 + seed % 5, 1 + seed % 3)
            self.check(machine, h.count(machine))


if __name__ == "__main__":
    unittest.main()
