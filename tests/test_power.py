import unittest

import helpers as h


def power_by_words(machine, numbers, letters):
    """The three numbers from what the word, twice the word, ... does."""
    done = [h.does(machine, letters)]
    while done.count(done[-1]) == 1:
        done.append(h.does(machine, letters * (len(done) + 1)))
    first = done.index(done[-1])
    idempotents = {row for row in done if tuple(row[s] for s in row) == row}
    assert len(idempotents) == 1
    return [numbers[idempotents.pop()], first + 1, len(done) - 1 - first]


class PowerTest(unittest.TestCase):
    def test_by_hand(self):
        cases = [
            (h.ONE_STATE, 0, [0, 0, 1, 1]),
            (h.SWAP, 0, [0, 0, 1, 1]),
            (h.SWAP, 1, [0, 0, 1, 2]),
            (h.RESETS, 2, [0, 2, 1, 1]),
            (h.CYCLES_OF_3_4_5, 1, [0, 0, 1, 60]),
            (h.CYCLES_OF_3_4_5, 4, [0, 0, 1, 15]),
            (h.CYCLES_OF_3_4_5, 59, [0, 0, 1, 60]),
            (h.CHAIN_OF_12, 1, [0, 11, 11, 1]),
            (h.CHAIN_OF_12, 5, [0, 11, 3, 1]),
            (h.CHAIN_OF_12, 11, [0, 11, 1, 1]),
            (h.TAIL_AND_CYCLE, 1, [0, 3, 2, 3]),
            (h.TAIL_AND_CYCLE, 2, [0, 3, 1, 3]),
            (h.TAIL_AND_CYCLE, 3, [0, 3, 1, 1]),
        ]
        for machine, e, told in cases:
            self.assertEqual(h.ask(h.begin(0, machine), h.power(0, e)), [[0], told])
            self.assertEqual(h.ask(h.begin(1, machine), h.power(1, e)), [[0], told])

    def test_every_element_against_words_written_again_and_again(self):
        starts = set()
        rounds = set()
        for machine in h.SMALL_MACHINES:
            found = h.first_words(machine)
            numbers = {row: e for e, row in enumerate(found)}
            told = h.ask_in_parts(machine, [h.power(0, e) for e in range(len(found))])
            self.assertEqual(told, [[0] + power_by_words(machine, numbers, word) for word in found.values()])
            starts.update(answer[2] for answer in told)
            rounds.update(answer[3] for answer in told)
        self.assertTrue({1, 2, 3} <= starts and {1, 2, 3} <= rounds)

    def test_the_idempotent_of_a_large_machine(self):
        for e in [1, 2048, 4095]:
            told = h.ask(h.begin(0, h.JUST_4096), h.power(0, e))[1]
            self.assertEqual(told[0], 0)
            self.assertEqual(len(told), 4)
            f = told[1]
            self.assertEqual(h.ask(h.begin(0, h.JUST_4096), h.product(0, f, f)), [[0], [f]])

    def test_what_is_no_element_is_refused(self):
        for machine, n in [(h.ONE_STATE, 1), (h.ALL_MAPS_OF_3, 27), (h.JUST_4096, 4096)]:
            told = h.ask_in_parts(machine, [h.power(0, e) for e in h.no_elements(n)])
            self.assertEqual(told, [[-2]] * len(told))
            self.assertEqual(h.ask(h.begin(0, machine), h.power(0, n), h.size(0)), [[0], [-2], [n]])


if __name__ == "__main__":
    unittest.main()
