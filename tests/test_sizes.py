"""add_size, remove_last_size, set_size, get_sizes."""

import unittest

from tests.helper import (
    LARGEST, NOT_THERE, NOTHING_THERE, OUTSIDE_LIMITS, TOO_MANY_SIZES, add_size, ask, ask_last, create, get_classes,
    get_sieves, get_sizes, misplaced, remove_last_size, set_sieves, set_size, sifter,
)

TEN = [(size, 90 + size) for size in range(10)]


class AddSize(unittest.TestCase):
    def test_it_answers_the_number_of_the_new_coarsest_size(self):
        self.assertEqual(ask(*sifter(TEN))[1:11], [[size] for size in range(10)])

    def test_amounts_of_0_and_of_99(self):
        sizes = [(0, 0), (99, 99), (0, 99), (99, 0)]
        self.assertEqual(ask_last(*sifter(sizes), get_sizes()), [4, 0, 0, 99, 99, 0, 99, 99, 0])

    def test_amounts_above_99(self):
        for flour, bran in [(100, 0), (0, 100), (100, 100), (LARGEST, 0), (0, LARGEST)]:
            self.assertEqual(ask(create(), add_size(flour, bran), get_sizes())[1:], [OUTSIDE_LIMITS, [0]])

    def test_an_eleventh_size(self):
        self.assertEqual(ask_last(*sifter(TEN), add_size(1, 1)), TOO_MANY_SIZES)
        self.assertEqual(ask_last(*sifter(TEN), add_size(99, 99)), TOO_MANY_SIZES)

    def test_amounts_are_checked_ahead_of_the_number_of_sizes(self):
        self.assertEqual(ask_last(*sifter(TEN), add_size(100, 1)), OUTSIDE_LIMITS)
        self.assertEqual(ask_last(*sifter(TEN), add_size(1, 100)), OUTSIDE_LIMITS)

    def test_there_is_room_again_after_a_removal(self):
        calls = [*sifter(TEN), remove_last_size(), add_size(7, 8), add_size(7, 8)]
        self.assertEqual(ask(*calls)[-3:], [[9], [9], TOO_MANY_SIZES])

    def test_it_joins_the_coarsest_class_and_leaves_the_sieves(self):
        calls = [*sifter([(1, 2), (3, 4)], [1]), add_size(5, 6), get_sieves(), get_classes()]
        self.assertEqual(ask(*calls)[-3:], [[2], [1, 1], [2, 1, 1, 2, 2, 8, 10]])


class RemoveLastSize(unittest.TestCase):
    def test_without_sizes(self):
        self.assertEqual(ask(create(), remove_last_size()), [[0], NOTHING_THERE])

    def test_it_answers_how_many_are_left(self):
        removed = ask(*sifter(TEN), *[remove_last_size()] * 11)[-11:]
        self.assertEqual(removed, [[left] for left in range(9, -1, -1)] + [NOTHING_THERE])

    def test_the_coarsest_goes(self):
        self.assertEqual(ask_last(*sifter([(1, 2), (3, 4), (5, 6)]), remove_last_size(), get_sizes()), [2, 1, 2, 3, 4])

    def test_the_only_size(self):
        calls = [*sifter([(1, 2)]), remove_last_size(), get_sizes(), get_sieves(), get_classes(), misplaced()]
        self.assertEqual(ask(*calls)[-5:], [[0], [0], [0], [1, 0, 0, 0], [0]])

    def test_the_sieve_at_its_position_goes_too(self):
        calls = [*sifter([(1, 2), (3, 4), (5, 6)], [1, 2]), remove_last_size(), get_sieves(), get_classes()]
        self.assertEqual(ask(*calls)[-3:], [[2], [1, 1], [2, 1, 1, 2, 1, 3, 4]])

    def test_it_does_not_come_back_with_another_size(self):
        calls = [*sifter([(1, 2), (3, 4)], [1]), remove_last_size(), add_size(3, 4), get_sieves(), misplaced()]
        self.assertEqual(ask(*calls)[-2:], [[0], [4]])

    def test_sieves_at_other_positions_stay(self):
        calls = [*sifter([(1, 2), (3, 4), (5, 6), (7, 8)], [1, 2]), remove_last_size(), get_sieves()]
        self.assertEqual(ask_last(*calls), [2, 1, 2])

    def test_one_by_one_from_sieves_at_all_positions(self):
        calls = sifter(TEN, range(1, 10))
        for left in range(9, 0, -1):
            calls.append(remove_last_size())
            self.assertEqual(ask_last(*calls, get_sieves()), [left - 1, *range(1, left)])
        self.assertEqual(ask(*calls, remove_last_size(), get_sieves())[-2:], [[0], [0]])


class SetSize(unittest.TestCase):
    def test_it_answers_0_and_the_previous_amounts(self):
        changes = [set_size(1, 8, 7), set_size(1, 0, 99), set_size(1, 99, 0), get_sizes()]
        expected = [[0, 3, 4], [0, 8, 7], [0, 0, 99], [3, 1, 2, 99, 0, 5, 6]]
        self.assertEqual(ask(*sifter([(1, 2), (3, 4), (5, 6)]), *changes)[-4:], expected)

    def test_the_finest_and_the_coarsest(self):
        calls = [*sifter(TEN), set_size(0, 11, 12), set_size(9, 13, 14), get_sizes()]
        expected = [10, 11, 12] + [amount for pair in TEN[1:9] for amount in pair] + [13, 14]
        self.assertEqual(ask(*calls)[-3:], [[0, 0, 90], [0, 9, 99], expected])

    def test_a_size_that_does_not_exist(self):
        self.assertEqual(ask(create(), set_size(0, 1, 1))[-1], NOT_THERE)
        for size in [2, 3, 10, LARGEST]:
            self.assertEqual(ask_last(*sifter([(1, 2), (3, 4)]), set_size(size, 1, 1)), NOT_THERE)

    def test_a_size_that_was_removed(self):
        self.assertEqual(ask_last(*sifter([(1, 2), (3, 4)]), remove_last_size(), set_size(1, 1, 1)), NOT_THERE)

    def test_amounts_above_99(self):
        for flour, bran in [(100, 0), (0, 100), (100, 100), (LARGEST, 0), (0, LARGEST)]:
            calls = [*sifter([(1, 2), (3, 4)]), set_size(1, flour, bran), get_sizes()]
            self.assertEqual(ask(*calls)[-2:], [OUTSIDE_LIMITS, [2, 1, 2, 3, 4]])

    def test_the_size_is_checked_ahead_of_the_amounts(self):
        for flour, bran in [(100, 0), (0, 100), (LARGEST, LARGEST)]:
            self.assertEqual(ask_last(*sifter([(1, 2), (3, 4)]), set_size(2, flour, bran)), NOT_THERE)

    def test_the_sieves_stay_and_the_amounts_count(self):
        calls = [*sifter([(9, 1), (3, 4), (5, 6)], [1]), set_size(0, 2, 8), get_sieves(), get_classes(), misplaced()]
        self.assertEqual(ask(*calls)[-4:], [[0, 9, 1], [1, 1], [2, 1, 2, 8, 2, 8, 10], [10]])


class GetSizes(unittest.TestCase):
    def test_no_sizes(self):
        self.assertEqual(ask_last(create(), get_sizes()), [0])

    def test_one_size(self):
        self.assertEqual(ask_last(create(), add_size(7, 3), get_sizes()), [1, 7, 3])

    def test_ten_sizes_in_order(self):
        self.assertEqual(ask_last(*sifter(TEN), get_sizes()), [10] + [amount for pair in TEN for amount in pair])

    def test_sieves_do_not_matter(self):
        self.assertEqual(ask_last(*sifter([(1, 2), (3, 4)], [1]), get_sizes()), [2, 1, 2, 3, 4])

    def test_asking_changes_nothing(self):
        calls = [*sifter([(1, 2), (3, 4)], [1]), get_sizes(), set_sieves(), get_sizes(), get_sizes()]
        self.assertEqual(ask(*calls)[-4:], [[2, 1, 2, 3, 4], [4], [2, 1, 2, 3, 4], [2, 1, 2, 3, 4]])


if __name__ == "__main__":
    unittest.main()
