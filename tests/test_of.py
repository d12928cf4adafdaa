import random
import unittest

import helpers as h

LONGEST_HANDED_IN = 29900


class OfTest(unittest.TestCase):
    def test_the_empty_word_is_element_0(self):
        for machine in h.SMALL_MACHINES + [h.JUST_4096]:
            self.assertEqual(h.ask(h.begin(0, machine), h.of(0, [])), [[0], [0]])

    def test_words_of_one_letter(self):
        told = h.ask(h.begin(0, h.ALL_MAPS_OF_3), h.of(0, [0]), h.of(0, [1]), h.of(0, [2]))
        self.assertEqual(told, [[0], [1], [2], [3]])
        # Letters that do the same, and one that does nothing.
        machine = h.machine_of([1, 1, 2], [0, 1, 2], [1, 1, 2], [0, 2, 2])
        told = h.ask(h.begin(0, machine), h.of(0, [0]), h.of(0, [1]), h.of(0, [2]), h.of(0, [3]))
        self.assertEqual(told, [[0], [1], [0], [1], [2]])

    def test_words_of_many_letters(self):
        source = random.Random(5)
        for machine in h.SMALL_MACHINES:
            numbers = {row: e for e, row in enumerate(h.first_words(machine))}
            words = [[source.randrange(machine[1]) for place in range(length)] for length in range(60)]
            told = h.ask_in_parts(machine, [h.of(0, letters) for letters in words])
            self.assertEqual(told, [[numbers[h.does(machine, letters)]] for letters in words])

    def test_the_first_letter_is_gone_first(self):
        told = h.ask(h.begin(0, h.RESETS), h.of(0, [0, 1]), h.of(0, [1, 0]), h.of(0, [1, 1, 0]))
        self.assertEqual(told, [[0], [2], [1], [1]])

    def test_the_longest_word(self):
        odd = [0] * (LONGEST_HANDED_IN - 1)
        even = [0] * LONGEST_HANDED_IN
        self.assertEqual(h.ask(h.begin(0, h.SWAP), h.of(0, odd)), [[0], [1]])
        self.assertEqual(h.ask(h.begin(0, h.SWAP), h.of(0, even)), [[0], [0]])
        source = random.Random(6)
        letters = [source.randrange(3) for place in range(LONGEST_HANDED_IN)]
        numbers = {row: e for e, row in enumerate(h.first_words(h.ALL_MAPS_OF_3))}
        told = h.ask(h.begin(1, h.ALL_MAPS_OF_3), h.of(1, letters))
        self.assertEqual(told, [[0], [numbers[h.does(h.ALL_MAPS_OF_3, letters)]]])

    def test_a_word_longer_than_65536_is_refused(self):
        told = h.ask(h.begin(0, h.SWAP), h.of(0, [0] * 65536), h.of(0, [0] * 65537), h.size(0))
        self.assertEqual(told, [[0], [0], [-2], [2]])

    def test_a_letter_of_k_or_above_is_refused_wherever_it_stands(self):
        for machine in [h.ONE_STATE, h.ALL_MAPS_OF_3, h.JUST_4096]:
            k = machine[1]
            for wrong in [k, k + 1, 12, 254, 255]:
                for place in range(5):
                    letters = [k - 1] * 5
                    letters[place] = wrong
                    told = h.ask(h.begin(0, machine), h.of(0, letters), h.of(0, [wrong]), h.of(0, []))
                    self.assertEqual(told, [[0], [-2], [-2], [0]])

    def test_a_wrong_letter_at_the_end_of_the_longest_word(self):
        for wrong in [1, 255]:
            letters = [0] * (LONGEST_HANDED_IN - 1) + [wrong]
            self.assertEqual(h.ask(h.begin(0, h.SWAP), h.of(0, letters), h.size(0)), [[0], [-2], [2]])


if __name__ == "__main__":
    unittest.main()
