import unittest

import helpers as h

BAD_COUNTS_OF_STATES = [0, 13, 14, 24, 255, 256, 268, -1, -2, -12, h.SMALLEST, h.LARGEST]
BAD_COUNTS_OF_LETTERS = [0, 7, 8, 12, 255, 256, 262, -1, -2, -6, h.SMALLEST, h.LARGEST]


class BeginTest(unittest.TestCase):
    def test_good_machines_answer_0(self):
        for machine in h.SMALL_MACHINES:
            self.assertEqual(h.ask(h.begin(0, machine)), [[0]])
            self.assertEqual(h.ask(h.begin(1, machine)), [[0]])

    def test_every_allowed_count_of_states_and_letters(self):
        for q in range(1, 13):
            for k in range(1, 7):
                self.assertEqual(h.ask(h.begin(0, (q, k, [q - 1] * (q * k)))), [[0]])

    def test_counts_out_of_range_are_refused(self):
        for q in BAD_COUNTS_OF_STATES:
            for k in [1, 2, 6] + BAD_COUNTS_OF_LETTERS:
                self.assertEqual(h.ask(h.begin(0, (q, k, []))), [[-2]])
        for k in BAD_COUNTS_OF_LETTERS:
            for q in [1, 2, 12]:
                self.assertEqual(h.ask(h.begin(1, (q, k, []))), [[-2]])

    def test_a_step_of_q_or_above_is_refused_wherever_it_stands(self):
        for q, k in [(1, 1), (2, 3), (12, 6)]:
            for place in range(q * k):
                for wrong in [q, q + 1, 254, 255]:
                    step = [q - 1] * (q * k)
                    step[place] = wrong
                    self.assertEqual(h.ask(h.begin(0, (q, k, step))), [[-2]])

    def test_a_wrong_step_is_refused_on_a_machine_of_too_many_elements_too(self):
        q, k, step = h.ALL_MAPS_OF_6
        self.assertEqual(h.ask(h.begin(0, (q, k, step[:-1] + [q]))), [[-2]])

    def test_just_4096_elements_are_taken_and_4097_are_not(self):
        self.assertEqual(h.count(h.JUST_4096), 4096)
        self.assertEqual(h.count(h.JUST_4097), 4097)
        self.assertEqual(h.ask(h.begin(0, h.JUST_4096), h.size(0)), [[0], [4096]])
        self.assertEqual(h.ask(h.begin(0, h.JUST_4097)), [[-1]])

    def test_far_too_many_elements_answer_minus_1(self):
        swaps = h.machine_of([1, 2, 3, 4, 5, 6, 7, 8, 9, 10, 11, 0], [1, 0, 2, 3, 4, 5, 6, 7, 8, 9, 10, 11])
        for machine in [h.ALL_MAPS_OF_6, swaps, h.random_machine(9, 12, 6)]:
            self.assertEqual(h.ask(h.begin(1, machine)), [[-1]])

    def test_a_refusal_leaves_the_earlier_machine(self):
        refusals = [
            ([-1], h.JUST_4097),
            ([-1], h.ALL_MAPS_OF_6),
            ([-2], (0, 1, [])),
            ([-2], (1, 7, [])),
            ([-2], (2, 1, [0, 2])),
        ]
        asked = [h.size(0), h.of(0, [0, 1, 2, 0]), h.word(0, 26), h.product(0, 5, 7), h.power(0, 1), h.of(0, [3])]
        before = h.ask(h.begin(0, h.ALL_MAPS_OF_3), *asked)[1:]
        for refusal, machine in refusals:
            told = h.ask(h.begin(0, h.ALL_MAPS_OF_3), h.begin(0, machine), *asked)
            self.assertEqual(told, [[0], refusal] + before)

    def test_a_first_begin_may_be_refused_and_come_again(self):
        told = h.ask(h.begin(0, (13, 1, [])), h.begin(0, h.JUST_4097), h.begin(0, h.SWAP), h.size(0))
        self.assertEqual(told, [[-2], [-1], [0], [2]])

    def test_a_begin_puts_the_new_machine_in_place_of_the_old(self):
        told = h.ask(
            h.begin(0, h.ALL_MAPS_OF_3), h.size(0), h.of(0, [2]),
            h.begin(0, h.SWAP), h.size(0), h.of(0, [2]), h.word(0, 2), h.word(0, 1),
            h.begin(0, h.RESETS), h.size(0), h.of(0, [1]), h.word(0, 2),
        )
        self.assertEqual(told, [[0], [27], [3], [0], [2], [-2], [-2], [0, 0], [0], [3], [2], [0, 1]])

    def test_the_machines_do_not_touch_each_other(self):
        told = h.ask(
            h.begin(0, h.SWAP), h.begin(1, h.RESETS), h.size(0), h.size(1),
            h.product(0, 1, 1), h.product(1, 1, 1), h.of(0, [1]), h.of(1, [1]), h.word(0, 2), h.word(1, 2),
            h.begin(1, h.ALL_MAPS_OF_3), h.size(0), h.size(1),
            h.begin(0, (0, 0, [])), h.begin(1, h.JUST_4097), h.size(0), h.size(1),
            h.begin(0, h.ONE_STATE), h.size(0), h.size(1),
        )
        self.assertEqual(told, [
            [0], [0], [2], [3],
            [0], [1], [-2], [2], [-2], [0, 1],
            [0], [2], [27],
            [-2], [-1], [2], [27],
            [0], [1], [27],
        ])


if __name__ == "__main__":
    unittest.main()
