import unittest

import helpers as h


class SaysTest(unittest.TestCase):
    def says(self, machine, start, ends):
        return h.ask(h.begin(0, machine), h.says(0, start, ends))[1]

    def check_all(self, machine):
        q = machine[0]
        rows = list(h.first_words(machine))
        products = h.table(machine)
        pairs = [(start, ends) for start in range(q) for ends in range(1 << q)]
        told = h.ask_in_parts(machine, [h.says(0, start, ends) for start, ends in pairs])
        plain = [h.plain_says(rows, products, start, ends) for start, ends in pairs]
        self.assertEqual(told, plain, machine)

    def test_by_hand(self):
        self.assertEqual(self.says(h.SWAP, 0, 1), [2, 0, 1])
        self.assertEqual(self.says(h.SWAP, 0, 3), [1, 0, 0])
        self.assertEqual(self.says(h.RESETS, 0, 1), [3, 0, 1, 2])
        self.assertEqual(self.says(h.machine_of([1, 1]), 0, 2), [2, 0, 1])
        self.assertEqual(self.says(h.machine_of([1, 1]), 1, 2), [1, 0, 0])
        self.assertEqual(self.says(h.machine_of([1, 1]), 0, 3), [1, 0, 0])

    def test_every_start_and_ends_against_a_plain_search(self):
        machines = h.EVERY_MACHINE_OF_2 + h.EVERY_MACHINE_OF_3[::4]
        machines += [h.ONE_STATE, h.ALL_MAPS_OF_3, h.OF_16, h.OF_17, h.FIRST_STAYS, h.UNDONE_OR_LOST, h.TWO_SINKS]
        machines += [h.STILL_AND_TURNING, h.TAIL_AND_CYCLE]
        for machine in machines:
            self.check_all(machine)

    def test_a_machine_of_12_states_against_a_plain_search(self):
        for machine in [h.CHAIN_OF_12, h.beside(h.TAIL_AND_CYCLE, h.STILL_AND_TURNING, h.FIRST_STAYS)]:
            rows = list(h.first_words(machine))
            products = h.table(machine)
            for start in [0, 5, 8, 11]:
                for ends in [0, 1, 16, 18, 64, 128, 1024, 2048, 2049, 2730, 4094, 4095]:
                    told = self.says(machine, start, ends)
                    self.assertEqual(told, h.plain_says(rows, products, start, ends))

    def test_ends_of_none_of_all_and_of_one_state(self):
        for machine in [h.ALL_MAPS_OF_3, h.OF_16, h.CYCLES_OF_3_4_5]:
            q = machine[0]
            n = h.count(machine)
            for start in range(q):
                self.assertEqual(self.says(machine, start, 0), [1] + [0] * n)
                self.assertEqual(self.says(machine, start, (1 << q) - 1), [1] + [0] * n)
        for start in range(3):
            for end in range(3):
                self.assertEqual(self.says(h.ALL_MAPS_OF_3, start, 1 << end), [27] + list(range(27)))

    def test_states_that_are_not_reached_play_no_part(self):
        self.assertEqual(self.says(h.STILL_AND_TURNING, 0, 2), [2, 0, 1, 1])
        self.assertEqual(self.says(h.STILL_AND_TURNING, 0, 4), [1, 0, 0, 0])
        self.assertEqual(self.says(h.STILL_AND_TURNING, 2, 4), [2, 0, 1, 0])

    def test_large_machines(self):
        self.assertEqual(self.says(h.ALL_MAPS_OF_5, 3, 4), [3125] + list(range(3125)))
        self.assertEqual(self.says(h.ALL_MAPS_OF_5, 3, 31), [1] + [0] * 3125)
        # From a state of one of three machines that don't touch, only what words do there counts.
        rows = h.rows_in_order(h.JUST_4096)
        small_rows = list(h.first_words(h.OF_16))
        products = h.table(h.OF_16)
        for start, ends in [(0, 1), (1, 5), (3, 8)]:
            small = dict(zip(small_rows, h.plain_says(small_rows, products, start, ends)[1:]))
            for shift in (0, 4, 8):
                told = self.says(h.JUST_4096, start + shift, ends << shift)
                marks = [small[tuple(place - shift for place in row[shift:shift + 4])] for row in rows]
                self.assertEqual(told, h.told_marks(marks))
            self.assertEqual(self.says(h.JUST_4096, start, ends << 4), [1] + [0] * 4096)

    def test_wrong_starts_and_ends_are_refused_and_change_nothing(self):
        for machine in [h.ONE_STATE, h.SWAP, h.OF_16, h.CHAIN_OF_12]:
            q = machine[0]
            calls = [h.says(0, start, ends) for start in h.wrong_starts(q) for ends in (0, 1)]
            calls += [h.says(0, start, ends) for start in (0, q - 1) for ends in h.wrong_ends(q)]
            calls += [h.says(0, -1, 1 << q), h.says(0, q, (1 << 32) - 1)]
            self.assertEqual(h.ask_in_parts(machine, calls), [[-2]] * len(calls))
            good = h.says(0, q - 1, 1 << (q - 1))
            told = h.ask(h.begin(0, machine), good, h.says(0, q, 0), h.says(0, 0, 1 << q), good)
            self.assertEqual(told, [[0], told[1], [-2], [-2], told[1]])

    def test_both_machines(self):
        told = h.ask(h.begin(0, h.SWAP), h.begin(1, h.OF_16), h.says(1, 3, 8), h.says(0, 1, 2), h.says(0, 3, 8))
        plain = h.plain_says(list(h.first_words(h.OF_16)), h.table(h.OF_16), 3, 8)
        self.assertEqual(told[2:], [plain, [2, 0, 1], [-2]])


if __name__ == "__main__":
    unittest.main()
