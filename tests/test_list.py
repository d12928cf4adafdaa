import contextlib
import io
import unittest

import helpers as h
from wordalgebra.machines import answers

SWAP_LIST = [0, 0, 2, 1, 2, 1, 0, 1, 0, 3, 0, 1, 5, 0, 1]
SWAP_ANSWERS = [1, 0, 1, 2, 2, 0, 0, 4, 0, 0, 1, 2]
REFUSED_LIST = [0, 1, 13, 1, 0, 0, 1, 1, 1, 1, 0, 4, 1, 0, 1]
REFUSED_ANSWERS = [1, -2, 1, 0, 1, -2]

ALGEBRA_LISTS = [
    (
        [0, 0, 2, 1, 2, 1, 0, 6, 0, 2, 7, 0, 8, 0, 9, 0, 10, 0, 0, 1, 11, 0, 0, 1],
        [1, 0, 3, 1, 0, 0, 1, 389, 3, 2, 1, 1, 1, -1, 3, 2, 0, 1, 1, 0],
    ),
    (
        [0, 1, 2, 2, 4, 0, 1, 0, 1, 6, 1, 0, 6, 1, 1, 6, 1, 2, 6, 1, 3, 6, 1, 4, 9, 1, 11, 1, 0, 2, 10, 1, 2, 1]
        + [11, 1, 0, 4],
        [1, 0, 4, 3, 0, 1, 2, 4, 2, 0, 1, 1, 4, 2, 0, 1, 1, 4, 3, 0, 1, 2, 1, -2, 1, -1, 1, 1, 1, -2, 1, -2],
    ),
    (
        [0, 0, 2, 1, 2, 1, 1, 7, 0, 8, 0, 9, 0, 10, 0, 0, 3],
        [1, 0, 1, 507, 3, 1, 0, 1, 1, 1, 3, 1, 0, 0],
    ),
]


def every_call(o):
    """Each call but begin, with refusals among them."""
    return [
        h.size(o), h.of(o, [0, 0, 0]), h.of(o, [255]), h.word(o, 1), h.word(o, -1), h.product(o, 1, 1),
        h.product(o, 1, h.LARGEST), h.power(o, 1), h.power(o, h.SMALLEST),
        h.classes(o, 0), h.classes(o, 1), h.classes(o, 2), h.classes(o, 3), h.classes(o, 4), h.kind(o), h.ideal(o),
        h.zero(o), h.says(o, 0, 1), h.says(o, 1, 2), h.says(o, -1, 1), h.free(o, 0, 1), h.free(o, 1, 3),
        h.free(o, 0, 4294967295),
    ]


def refuse_change(*given, **named):
    raise AssertionError("what is handed in was changed")


class Unchanged(list):
    """A list that fails as soon as it is changed, if only for a while."""

    append = extend = insert = pop = remove = clear = sort = reverse = refuse_change
    __setitem__ = __delitem__ = __iadd__ = __imul__ = refuse_change


class ListTest(unittest.TestCase):
    def test_the_empty_list(self):
        self.assertEqual(answers([]), [])

    def test_lists_by_hand(self):
        self.assertEqual(answers(SWAP_LIST), SWAP_ANSWERS)
        self.assertEqual(answers(REFUSED_LIST), REFUSED_ANSWERS)
        self.assertEqual(answers(SWAP_LIST + REFUSED_LIST), SWAP_ANSWERS + REFUSED_ANSWERS)

    def test_the_count_stands_before_each_answer(self):
        machine = h.begin(0, h.CHAIN_OF_12)
        self.assertEqual(answers(machine), [1, 0])
        self.assertEqual(answers(machine + h.size(0)), [1, 0, 1, 12])
        self.assertEqual(answers(machine + h.of(0, [0] * 5)), [1, 0, 1, 5])
        self.assertEqual(answers(machine + h.of(0, [0, 1])), [1, 0, 1, -2])
        self.assertEqual(answers(machine + h.word(0, 0)), [1, 0, 1, 0])
        self.assertEqual(answers(machine + h.word(0, 3)), [1, 0, 4, 0, 0, 0, 0])
        self.assertEqual(answers(machine + h.word(0, 12)), [1, 0, 1, -2])
        self.assertEqual(answers(machine + h.product(0, 4, 5)), [1, 0, 1, 9])
        self.assertEqual(answers(machine + h.product(0, 4, -1)), [1, 0, 1, -2])
        self.assertEqual(answers(machine + h.power(0, 1)), [1, 0, 4, 0, 11, 11, 1])
        self.assertEqual(answers(machine + h.power(0, -1)), [1, 0, 1, -2])

    def test_refusals_between_calls_leave_the_rest_as_it_was(self):
        told = h.ask(
            h.begin(0, h.SWAP), h.of(0, [0, 255, 0]), h.size(0), h.word(0, -1), h.word(0, 1),
            h.product(0, 2, 0), h.product(0, 1, 0), h.power(0, 2), h.power(0, 1),
        )
        self.assertEqual(told, [[0], [-2], [2], [-2], [0, 0], [-2], [1], [-2], [0, 0, 1, 2]])

    def test_what_is_handed_in_is_the_same_afterwards(self):
        calls = h.begin(0, h.ALL_MAPS_OF_3) + h.of(0, [2, 1, 0]) + h.word(0, 9) + h.begin(0, (2, 1, [0, 2]))
        calls += h.begin(1, h.JUST_4097) + h.product(0, 3, 4) + h.power(0, 5) + h.size(0)
        before = list(calls)
        given = answers(calls)
        self.assertEqual(calls, before)
        self.assertEqual(answers(Unchanged(calls)), given)

    def test_what_is_given_back_is_a_new_list_of_whole_numbers(self):
        calls = []
        self.assertIsNot(answers(calls), calls)
        given = answers(SWAP_LIST)
        self.assertIs(type(given), list)
        self.assertEqual({type(number) for number in given}, {int})
        given.clear()
        self.assertEqual(answers(SWAP_LIST), SWAP_ANSWERS)

    def test_nothing_is_kept_from_one_list_to_the_next(self):
        for round_number in range(2):
            self.assertEqual(answers(SWAP_LIST), SWAP_ANSWERS)
            self.assertEqual(answers(h.begin(0, h.RESETS) + h.size(0)), [1, 0, 1, 3])
            self.assertEqual(answers(REFUSED_LIST), REFUSED_ANSWERS)

    def test_nothing_is_printed(self):
        out = io.StringIO()
        with contextlib.redirect_stdout(out), contextlib.redirect_stderr(out):
            answers(SWAP_LIST)
            answers(REFUSED_LIST)
        self.assertEqual(out.getvalue(), "")

    def test_lists_of_the_later_calls_by_hand(self):
        for calls, given in ALGEBRA_LISTS:
            self.assertEqual(answers(calls), given)
        for calls, given in ALGEBRA_LISTS:
            for behind, given_behind in ALGEBRA_LISTS:
                self.assertEqual(answers(calls + behind), given + given_behind)

    def test_the_count_stands_before_each_answer_of_the_later_calls(self):
        machine = h.begin(0, h.RESETS)
        self.assertEqual(answers(machine + h.classes(0, 1)), [1, 0, 4, 2, 0, 1, 1])
        self.assertEqual(answers(machine + h.classes(0, 4)), [1, 0, 1, -2])
        self.assertEqual(answers(machine + h.kind(0)), [1, 0, 1, 202])
        self.assertEqual(answers(machine + h.ideal(0)), [1, 0, 4, 2, 0, 1, 1])
        self.assertEqual(answers(machine + h.zero(0)), [1, 0, 1, -1])
        self.assertEqual(answers(machine + h.says(0, 0, 3)), [1, 0, 4, 1, 0, 0, 0])
        self.assertEqual(answers(machine + h.says(0, 0, 4)), [1, 0, 1, -2])
        self.assertEqual(answers(machine + h.free(0, 0, 1)), [1, 0, 1, 1])
        self.assertEqual(answers(machine + h.free(0, 2, 1)), [1, 0, 1, -2])

    def test_all_calls_on_both_machines_by_turns(self):
        for first, second in [(h.SWAP, h.RESETS), (h.ALL_MAPS_OF_3, h.OF_17), (h.OF_16, h.OF_16)]:
            told_first = h.ask(h.begin(0, first), *every_call(0))
            told_second = h.ask(h.begin(1, second), *every_call(1))
            calls = []
            told = []
            for at, call in enumerate([h.begin(0, first)] + every_call(0)):
                calls += [call, ([h.begin(1, second)] + every_call(1))[at]]
                told += [told_first[at], told_second[at]]
            self.assertEqual(h.ask(*calls), told)

    def test_a_refused_begin_leaves_all_answers(self):
        refusals = [([-1], h.JUST_4097), ([-2], (0, 1, [])), ([-2], (1, 7, [])), ([-2], (2, 1, [0, 2]))]
        for o in range(2):
            before = h.ask(h.begin(o, h.OF_17), *every_call(o))
            for refusal, machine in refusals:
                refused = h.begin(o, machine)
                told = h.ask(h.begin(o, h.OF_17), refused, *every_call(o), refused, *every_call(o))
                self.assertEqual(told, [[0], refusal] + before[1:] + [refusal] + before[1:])

    def test_a_begin_puts_all_new_answers_in_place_of_the_old(self):
        machines = [h.OF_17, h.SWAP, h.ALL_MAPS_OF_3, h.RESETS, h.FIRST_STAYS, h.OF_17]
        calls = []
        told = []
        for machine in machines:
            asked = [h.begin(1, machine)] + every_call(1)
            calls += asked
            told += h.ask(*asked)
        self.assertEqual(h.ask(*calls), told)

    def test_calls_leave_the_machine_as_it_is(self):
        for machine in [h.SWAP, h.OF_17, h.ALL_MAPS_OF_3]:
            told = h.ask(h.begin(0, machine), *every_call(0), *every_call(0)[::-1], *every_call(0))
            alone = [h.ask(h.begin(0, machine), call)[1] for call in every_call(0)]
            self.assertEqual(told, [[0]] + alone + alone[::-1] + alone)

    def test_the_same_list_answers_the_same_and_stays_as_it_is(self):
        calls = sum([h.begin(0, h.OF_17), *every_call(0), h.begin(1, h.ALL_MAPS_OF_3), *every_call(1)], [])
        before = list(calls)
        given = answers(calls)
        self.assertEqual(calls, before)
        self.assertEqual(answers(calls), given)
        self.assertEqual(answers(Unchanged(calls)), given)
        self.assertEqual({type(number) for number in given}, {int})
        changed = answers(calls)
        changed.clear()
        self.assertEqual(answers(calls), given)

    def test_nothing_is_printed_by_the_later_calls(self):
        out = io.StringIO()
        with contextlib.redirect_stdout(out), contextlib.redirect_stderr(out):
            h.ask(h.begin(0, h.OF_17), *every_call(0))
        self.assertEqual(out.getvalue(), "")

    def test_nearly_a_million_numbers(self):
        calls = [h.begin(0, h.JUST_4096), h.begin(1, h.JUST_4096)]
        for number in range(61):
            calls += [h.classes(0, number % 4), h.ideal(1)]
            calls += [h.says(0, number % 12, 64 * number + 1), h.says(1, 5, number)]
        calls += [h.kind(0), h.zero(0)] * 14 + [h.free(1, number % 12, 128 * number + 3) for number in range(26)]
        self.assertEqual(len(calls), 300)
        told = h.ask(*calls)
        self.assertEqual(sum(len(answer) == 4097 for answer in told), 244)
        self.assertLess(sum(len(answer) for answer in told), 1000000)
        self.assertNotIn([-2], told)

    def test_kind_of_a_new_machine_each_time(self):
        calls = [h.begin(number % 2, h.ALL_MAPS_OF_5) for number in range(150)]
        calls = sum([[call, h.kind(number % 2)] for number, call in enumerate(calls)], [])
        self.assertEqual(h.ask(*calls), [[0], [128]] * 150)

    def test_300_begins_of_the_largest_machines(self):
        calls = [h.begin(number % 2, h.JUST_4096) for number in range(298)] + [h.size(0), h.size(1)]
        self.assertLessEqual(sum(len(call) for call in calls), 30000)
        self.assertEqual(h.ask(*calls), [[0]] * 298 + [[4096], [4096]])

    def test_300_calls_on_two_large_machines(self):
        calls = [h.begin(0, h.JUST_4096), h.begin(1, h.ALL_MAPS_OF_5)]
        for number in range(74):
            calls += [h.product(0, 4095 - number, number), h.power(0, 4095 - number)]
            calls += [h.word(1, 3124 - number), h.of(1, [number % 3] * 300)]
        calls += [h.size(0), h.size(1)]
        told = h.ask(*calls)
        self.assertEqual(len(told), 300)
        self.assertEqual(told[-2:], [[4096], [3125]])
        self.assertNotIn([-2], told)

    def test_the_longest_list(self):
        head = h.begin(0, h.JUST_4096)
        calls = head + h.of(0, [5] * (29997 - len(head)))
        self.assertEqual(len(calls), 30000)
        self.assertEqual(len(answers(calls)), 4)


if __name__ == "__main__":
    unittest.main()
