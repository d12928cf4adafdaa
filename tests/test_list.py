import contextlib
import io
import unittest

import helpers as h
from wordalgebra.machines import answers

SWAP_LIST = [0, 0, 2, 1, 2, 1, 0, 1, 0, 3, 0, 1, 5, 0, 1]
SWAP_ANSWERS = [1, 0, 1, 2, 2, 0, 0, 4, 0, 0, 1, 2]
REFUSED_LIST = [0, 1, 13, 1, 0, 0, 1, 1, 1, 1, 0, 4, 1, 0, 1]
REFUSED_ANSWERS = [1, -2, 1, 0, 1, -2]


def refuse_change(*given, **named):
    raise AssertionError("what is handed in was changed")


class Unchanged(list):
    """A list that fails as soon as it is changed, if only for a while."""

    append = extend = insert = pop = remove = clear = sort = reverse = refuse_change
    __setitem__ = __delitem__ = __iadd__ = __imul__ = refuse_change


class ListTest(unittest.TestCase):
    def test_the_empty_list(self):
        self.assertEqual(answers([]), [])

    def test_lists_by_hand(self):
        self.assertEqual(answers(SWAP_LIST), SWAP_ANSWERS)
        self.assertEqual(answers(REFUSED_LIST), REFUSED_ANSWERS)
        self.assertEqual(answers(SWAP_LIST + REFUSED_LIST), SWAP_ANSWERS + REFUSED_ANSWERS)

    def test_the_count_stands_before_each_answer(self):
        machine = h.begin(0, h.CHAIN_OF_12)
        self.assertEqual(answers(machine), [1, 0])
        self.assertEqual(answers(machine + h.size(0)), [1, 0, 1, 12])
        self.assertEqual(answers(machine + h.of(0, [0] * 5)), [1, 0, 1, 5])
        self.assertEqual(answers(machine + h.of(0, [0, 1])), [1, 0, 1, -2])
        self.assertEqual(answers(machine + h.word(0, 0)), [1, 0, 1, 0])
        self.assertEqual(answers(machine + h.word(0, 3)), [1, 0, 4, 0, 0, 0, 0])
        self.assertEqual(answers(machine + h.word(0, 12)), [1, 0, 1, -2])
        self.assertEqual(answers(machine + h.product(0, 4, 5)), [1, 0, 1, 9])
        self.assertEqual(answers(machine + h.product(0, 4, -1)), [1, 0, 1, -2])
        self.assertEqual(answers(machine + h.power(0, 1)), [1, 0, 4, 0, 11, 11, 1])
        self.assertEqual(answers(machine + h.power(0, -1)), [1, 0, 1, -2])

    def test_refusals_between_calls_leave_the_rest_as_it_was(self):
        told = h.ask(
            h.begin(0, h.SWAP), h.of(0, [0, 255, 0]), h.size(0), h.word(0, -1), h.word(0, 1),
            h.product(0, 2, 0), h.product(0, 1, 0), h.power(0, 2), h.power(0, 1),
        )
        self.assertEqual(told, [[0], [-2], [2], [-2], [0, 0], [-2], [1], [-2], [0, 0, 1, 2]])

    def test_what_is_handed_in_is_the_same_afterwards(self):
        calls = h.begin(0, h.ALL_MAPS_OF_3) + h.of(0, [2, 1, 0]) + h.word(0, 9) + h.begin(0, (2, 1, [0, 2]))
        calls += h.begin(1, h.JUST_4097) + h.product(0, 3, 4) + h.power(0, 5) + h.size(0)
        before = list(calls)
        given = answers(calls)
        self.assertEqual(calls, before)
        self.assertEqual(answers(Unchanged(calls)), given)

    def test_what_is_given_back_is_a_new_list_of_whole_numbers(self):
        calls = []
        self.assertIsNot(answers(calls), calls)
        given = answers(SWAP_LIST)
        self.assertIs(type(given), list)
        self.assertEqual({type(number) for number in given}, {int})
        given.clear()
        self.assertEqual(answers(SWAP_LIST), SWAP_ANSWERS)

    def test_nothing_is_kept_from_one_list_to_the_next(self):
        for round_number in range(2):
            self.assertEqual(answers(SWAP_LIST), SWAP_ANSWERS)
            self.assertEqual(answers(h.begin(0, h.RESETS) + h.size(0)), [1, 0, 1, 3])
            self.assertEqual(answers(REFUSED_LIST), REFUSED_ANSWERS)

    def test_nothing_is_printed(self):
        out = io.StringIO()
        with contextlib.redirect_stdout(out), contextlib.redirect_stderr(out):
            answers(SWAP_LIST)
            answers(REFUSED_LIST)
        self.assertEqual(out.getvalue(), "")

    def test_300_begins_of_the_largest_machines(self):
        calls = [h.begin(number % 2, h.JUST_4096) for number in range(298)] + [h.size(0), h.size(1)]
        self.assertLessEqual(sum(len(call) for call in calls), 30000)
        self.assertEqual(h.ask(*calls), [[0]] * 298 + [[4096], [4096]])

    def test_300_calls_on_two_large_machines(self):
        calls = [h.begin(0, h.JUST_4096), h.begin(1, h.ALL_MAPS_OF_5)]
        for number in range(74):
            calls += [h.product(0, 4095 - number, number), h.power(0, 4095 - number)]
            calls += [h.word(1, 3124 - number), h.of(1, [number % 3] * 300)]
        calls += [h.size(0), h.size(1)]
        told = h.ask(*calls)
        self.assertEqual(len(told), 300)
        self.assertEqual(told[-2:], [[4096], [3125]])
        self.assertNotIn([-2], told)

    def test_the_longest_list(self):
        head = h.begin(0, h.JUST_4096)
        calls = head + h.of(0, [5] * (29997 - len(head)))
        self.assertEqual(len(calls), 30000)
        self.assertEqual(len(answers(calls)), 4)


if __name__ == "__main__":
    unittest.main()
