import unittest

import helpers as h


class WordTest(unittest.TestCase):
    def test_element_0_has_no_letters(self):
        for machine in h.SMALL_MACHINES + [h.JUST_4096]:
            self.assertEqual(h.ask(h.begin(0, machine), h.word(0, 0)), [[0], [0]])

    def test_every_first_word_against_a_search_of_all_words(self):
        machines = h.SMALL_MACHINES + [h.random_machine(seed, 2 + seed % 3, 2) for seed in range(10, 30)]
        for machine in machines:
            found = list(h.first_words(machine).values())
            told = h.ask_in_parts(machine, [h.word(0, e) for e in range(len(found))])
            self.assertEqual(told, [[0] + letters for letters in found])

    def test_of_two_words_of_one_length_the_lower_first_letter_counts(self):
        # Words 01 and 10 do the same here; 01 stands before 10.
        machine = h.machine_of([1, 0, 2, 3], [0, 1, 3, 2])
        told = h.ask(h.begin(0, machine), h.size(0), h.word(0, 1), h.word(0, 2), h.word(0, 3))
        self.assertEqual(told, [[0], [4], [0, 0], [0, 1], [0, 0, 1]])

    def test_long_first_words(self):
        told = h.ask(h.begin(1, h.CYCLES_OF_3_4_5), h.word(1, 59), h.word(1, 30), h.word(1, 60))
        self.assertEqual(told, [[0], [0] + [0] * 59, [0] + [0] * 30, [-2]])

    def test_words_of_a_large_machine_come_in_order_and_do_their_elements(self):
        machine = h.JUST_4096
        chosen = list(range(0, 4096, 16)) + [4094, 4095]
        told = h.ask_in_parts(machine, [h.word(0, e) for e in chosen])
        words = [answer[1:] for answer in told]
        self.assertEqual(words, sorted(words, key=lambda letters: (len(letters), letters)))
        self.assertEqual(h.ask_in_parts(machine, [h.of(0, letters) for letters in words]), [[e] for e in chosen])

    def test_what_is_no_element_is_refused(self):
        for machine, n in [(h.ONE_STATE, 1), (h.ALL_MAPS_OF_3, 27), (h.JUST_4096, 4096)]:
            told = h.ask_in_parts(machine, [h.word(0, e) for e in h.no_elements(n)])
            self.assertEqual(told, [[-2]] * len(told))
            self.assertEqual(h.ask(h.begin(0, machine), h.word(0, n), h.size(0)), [[0], [-2], [n]])


if __name__ == "__main__":
    unittest.main()
