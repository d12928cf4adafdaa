import unittest

import helpers as h

NO_KINDS = [-1, -2, -4, -256, h.SMALLEST, h.SMALLEST + 1, 4, 5, 7, 8, 256, 260, 65536, h.LARGEST - 1, h.LARGEST]


def kernel(row):
    return tuple(row.index(place) for place in row)


def image(row):
    return tuple(sorted(set(row)))


class ClassesTest(unittest.TestCase):
    def ask_all_kinds(self, machine):
        return h.ask(h.begin(0, machine), *[h.classes(0, kind) for kind in range(4)])[1:]

    def test_by_hand(self):
        self.assertEqual(self.ask_all_kinds(h.ONE_STATE), [[1, 0]] * 4)
        self.assertEqual(self.ask_all_kinds(h.SWAP), [[1, 0, 0]] * 4)
        self.assertEqual(self.ask_all_kinds(h.RESETS), [[3, 0, 1, 2], [2, 0, 1, 1], [2, 0, 1, 1], [3, 0, 1, 2]])
        self.assertEqual(self.ask_all_kinds(h.FIRST_STAYS), [[2, 0, 1, 1], [3, 0, 1, 2], [2, 0, 1, 1], [3, 0, 1, 2]])
        # Elements: nothing, a, b, a a (all is lost), a b, b a.
        self.assertEqual(self.ask_all_kinds(h.UNDONE_OR_LOST), [
            [4, 0, 1, 2, 3, 2, 1], [4, 0, 1, 2, 3, 1, 2], [3, 0, 1, 1, 2, 1, 1], [6, 0, 1, 2, 3, 4, 5],
        ])

    def test_against_a_plain_search(self):
        for machine in h.SEARCHED_MACHINES:
            products = h.table(machine)
            told = self.ask_all_kinds(machine)
            self.assertEqual(told, [h.plain_classes(products, kind) for kind in range(4)], machine)

    def test_a_machine_where_all_four_differ_and_none_is_trivial(self):
        told = self.ask_all_kinds(h.ALL_MAPS_OF_3)
        self.assertEqual([answer[0] for answer in told], [7, 5, 3, 13])
        self.assertEqual(told, [h.plain_classes(h.table(h.ALL_MAPS_OF_3), kind) for kind in range(4)])

    def test_how_many_stands_first_and_then_as_many_as_there_are_elements(self):
        for machine in h.SMALL_MACHINES + [h.JUST_4096]:
            n = h.count(machine)
            for told in self.ask_all_kinds(machine):
                self.assertEqual(len(told), n + 1)
                self.assertEqual(list(dict.fromkeys(told[1:])), list(range(told[0])))

    def test_both_machines(self):
        told = h.ask(
            h.begin(1, h.RESETS), h.begin(0, h.FIRST_STAYS), h.classes(1, 0), h.classes(0, 0),
            h.classes(1, 1), h.classes(0, 1),
        )
        self.assertEqual(told[2:], [[3, 0, 1, 2], [2, 0, 1, 1], [2, 0, 1, 1], [3, 0, 1, 2]])

    def test_all_maps_of_5_states(self):
        rows = h.rows_in_order(h.ALL_MAPS_OF_5)
        told = self.ask_all_kinds(h.ALL_MAPS_OF_5)
        self.assertEqual([answer[0] for answer in told[:3]], [31, 52, 5])
        self.assertEqual(told, [
            h.told_marks([image(row) for row in rows]),
            h.told_marks([kernel(row) for row in rows]),
            h.told_marks([len(set(row)) for row in rows]),
            h.told_marks([(image(row), kernel(row)) for row in rows]),
        ])

    def test_the_largest_machine_of_three_that_do_not_touch(self):
        numbers = {row: e for e, row in enumerate(h.first_words(h.OF_16))}
        rows = h.rows_in_order(h.JUST_4096)
        parts = [
            [numbers[tuple(place - start for place in row[start:start + 4])] for start in (0, 4, 8)]
            for row in rows
        ]
        told = self.ask_all_kinds(h.JUST_4096)
        for kind in range(4):
            small = h.plain_classes(h.table(h.OF_16), kind)[1:]
            self.assertEqual(told[kind], h.told_marks([tuple(small[e] for e in part) for part in parts]))

    def test_a_large_group(self):
        swaps = h.beside(h.machine_of([1, 2, 3, 4, 5, 0], [1, 0, 2, 3, 4, 5]), h.SWAP)
        self.assertEqual(self.ask_all_kinds(swaps), [[1] + [0] * 1440] * 4)

    def test_other_kinds_are_refused_and_change_nothing(self):
        for machine in [h.ONE_STATE, h.ALL_MAPS_OF_3]:
            before = self.ask_all_kinds(machine)
            for wrong in NO_KINDS:
                told = h.ask(h.begin(0, machine), h.classes(0, wrong), *[h.classes(0, kind) for kind in range(4)])
                self.assertEqual(told, [[0], [-2]] + before)


if __name__ == "__main__":
    unittest.main()
