"""set_sieves, get_sieves, get_classes, misplaced, purity."""

import unittest

from tests.helper import (
    LARGEST, NOTHING_THERE, OUTSIDE_LIMITS, add_size, all_position_lists, ask, ask_last, create, get_classes,
    get_sieves, misplaced, plain_classes, purity, set_sieves, set_size, sifter,
)

TEN = [(size, 90 + size) for size in range(10)]
FOUR = [(5, 1), (2, 6), (3, 3), (0, 8)]


class SetSieves(unittest.TestCase):
    def test_it_answers_the_misplaced_amount_afterwards(self):
        for positions, amount in [([], 10), ([1], 6), ([2], 10), ([3], 10), ([1, 2], 6), ([1, 3], 6), ([2, 3], 10),
                                  ([1, 2, 3], 6)]:
            calls = [*sifter(FOUR, positions), misplaced(), get_sieves()]
            self.assertEqual(ask(*calls)[-3:], [[amount], [amount], [len(positions), *positions]])

    def test_it_replaces_all_sieves(self):
        calls = [*sifter(FOUR, [1, 3]), set_sieves(2), get_sieves(), set_sieves(), get_sieves()]
        self.assertEqual(ask(*calls)[-4:], [[10], [1, 2], [10], [0]])

    def test_no_sieves_at_no_sizes_and_one(self):
        self.assertEqual(ask_last(create(), set_sieves()), [0])
        self.assertEqual(ask_last(create(), add_size(4, 7), set_sieves()), [4])

    def test_no_position_at_no_sizes_and_one(self):
        for position in [0, 1, 2]:
            self.assertEqual(ask_last(create(), set_sieves(position)), OUTSIDE_LIMITS)
            self.assertEqual(ask_last(create(), add_size(4, 7), set_sieves(position)), OUTSIDE_LIMITS)

    def test_all_positions(self):
        calls = [*sifter(TEN, range(1, 10)), get_sieves()]
        self.assertEqual(ask(*calls)[-2:], [[45], [9, 1, 2, 3, 4, 5, 6, 7, 8, 9]])

    def test_numbers_that_are_no_positions(self):
        for positions in [[0], [4], [5], [LARGEST], [0, 1], [1, 4], [1, 2, 3, 4], [0, 1, 2, 3], [2, LARGEST]]:
            calls = [*sifter(FOUR, [1]), set_sieves(*positions), get_sieves()]
            self.assertEqual(ask(*calls)[-2:], [OUTSIDE_LIMITS, [1, 1]])

    def test_lists_that_are_not_strictly_increasing(self):
        for positions in [[1, 1], [2, 1], [1, 3, 2], [1, 2, 2], [3, 3, 3], [3, 1, 2], [1, 3, 1]]:
            calls = [*sifter(FOUR, [1]), set_sieves(*positions), get_sieves()]
            self.assertEqual(ask(*calls)[-2:], [OUTSIDE_LIMITS, [1, 1]])

    def test_twelve_numbers(self):
        for positions in [range(1, 13), range(12), [1] * 12]:
            calls = [*sifter(TEN, [4]), set_sieves(*positions), get_sieves()]
            self.assertEqual(ask(*calls)[-2:], [OUTSIDE_LIMITS, [1, 4]])


class GetSieves(unittest.TestCase):
    def test_no_sieves(self):
        self.assertEqual(ask_last(create(), get_sieves()), [0])
        self.assertEqual(ask_last(*sifter(FOUR), get_sieves()), [0])

    def test_their_number_and_positions(self):
        self.assertEqual(ask_last(*sifter(TEN, [2, 5, 9]), get_sieves()), [3, 2, 5, 9])


class GetClasses(unittest.TestCase):
    def test_no_sizes_are_one_empty_class(self):
        self.assertEqual(ask_last(create(), get_classes()), [1, 0, 0, 0])

    def test_one_size(self):
        self.assertEqual(ask_last(create(), add_size(4, 7), get_classes()), [1, 1, 4, 7])

    def test_no_sieves(self):
        self.assertEqual(ask_last(*sifter(FOUR), get_classes()), [1, 4, 10, 18])

    def test_a_sieve_separates_the_sizes_below_its_position(self):
        self.assertEqual(ask_last(*sifter(FOUR, [1]), get_classes()), [2, 1, 5, 1, 3, 5, 17])
        self.assertEqual(ask_last(*sifter(FOUR, [3]), get_classes()), [2, 3, 10, 10, 1, 0, 8])

    def test_several_sieves(self):
        self.assertEqual(ask_last(*sifter(FOUR, [1, 3]), get_classes()), [3, 1, 5, 1, 2, 5, 9, 1, 0, 8])

    def test_sieves_at_all_positions(self):
        expected = [4, 1, 5, 1, 1, 2, 6, 1, 3, 3, 1, 0, 8]
        self.assertEqual(ask_last(*sifter(FOUR, [1, 2, 3]), get_classes()), expected)

    def test_the_classes_together_contain_all_sizes_in_order(self):
        for count in range(10):
            for positions in all_position_lists(TEN, count)[::7]:
                numbers = ask_last(*sifter(TEN, positions), get_classes())
                rows = [numbers[start:start + 3] for start in range(1, len(numbers), 3)]
                self.assertEqual(numbers[0], count + 1)
                self.assertEqual(rows, plain_classes(TEN, positions))
                self.assertEqual([sum(column) for column in zip(*rows)], [10, 45, 945])


class Misplaced(unittest.TestCase):
    def test_no_sizes(self):
        self.assertEqual(ask_last(create(), misplaced()), [0])

    def test_the_smaller_part_of_one_size(self):
        for flour, bran, amount in [(7, 4, 4), (4, 7, 4), (5, 5, 5), (0, 9, 0), (9, 0, 0), (0, 0, 0), (99, 99, 99)]:
            self.assertEqual(ask_last(create(), add_size(flour, bran), misplaced()), [amount])

    def test_the_totals_of_a_class_are_compared(self):
        self.assertEqual(ask_last(*sifter([(9, 0), (0, 8)]), misplaced()), [8])
        self.assertEqual(ask_last(*sifter([(9, 0), (0, 9)]), misplaced()), [9])
        self.assertEqual(ask_last(*sifter([(9, 0), (0, 10)]), misplaced()), [9])

    def test_the_sum_over_all_classes(self):
        self.assertEqual(ask_last(*sifter([(9, 3), (2, 8), (4, 4)], [1, 2]), misplaced()), [9])

    def test_it_follows_the_sizes(self):
        changes = [misplaced(), set_size(1, 8, 7), misplaced(), add_size(0, 50), misplaced()]
        self.assertEqual(ask(*sifter([(9, 3), (2, 8)], [1]), *changes)[-5:], [[5], [0, 2, 8], [10], [2], [11]])


class Purity(unittest.TestCase):
    def test_no_sizes(self):
        self.assertEqual(ask_last(create(), purity()), NOTHING_THERE)

    def test_a_total_weight_of_0(self):
        self.assertEqual(ask_last(create(), add_size(0, 0), purity()), NOTHING_THERE)
        self.assertEqual(ask_last(*sifter([(0, 0)] * 10, [3, 7]), purity()), NOTHING_THERE)

    def test_a_class_without_weight(self):
        self.assertEqual(ask_last(*sifter([(0, 0), (3, 1)], [1]), purity()), [0, 3, 4])

    def test_nothing_misplaced(self):
        self.assertEqual(ask_last(create(), add_size(6, 0), purity()), [0, 1, 1])
        self.assertEqual(ask_last(create(), add_size(0, 6), purity()), [0, 1, 1])
        self.assertEqual(ask_last(*sifter([(6, 0), (0, 4)], [1]), purity()), [0, 1, 1])

    def test_as_much_flour_as_bran(self):
        self.assertEqual(ask_last(create(), add_size(1, 1), purity()), [0, 1, 2])
        self.assertEqual(ask_last(*sifter([(99, 99)] * 10), purity()), [0, 1, 2])

    def test_lowest_terms(self):
        for flour, bran, expected in [(6, 4, [0, 3, 5]), (4, 6, [0, 3, 5]), (2, 1, [0, 2, 3]), (90, 10, [0, 9, 10]),
                                      (99, 98, [0, 99, 197]), (96, 36, [0, 8, 11]), (7, 91, [0, 13, 14])]:
            self.assertEqual(ask_last(create(), add_size(flour, bran), purity()), expected)

    def test_it_follows_the_sieves(self):
        calls = [*sifter(FOUR), purity(), set_sieves(1), purity()]
        self.assertEqual([ask(*calls)[at] for at in (-3, -1)], [[0, 9, 14], [0, 11, 14]])


if __name__ == "__main__":
    unittest.main()
