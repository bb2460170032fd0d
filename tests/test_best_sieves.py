"""best_sieves and apply_best_sieves: lists worked out by hand, and a plain search over all lists of positions."""

import unittest
from random import Random

from tests.helper import (
    LARGEST, OUTSIDE_LIMITS, add_size, apply_best_sieves, ask, ask_last, best_sieves, create, get_classes, get_sieves,
    get_sizes, many_sizes, misplaced, plain_best, remove_last_size, set_sieves, sifter,
)


class ByHand(unittest.TestCase):
    def test_one_sieve_between_flour_and_bran(self):
        self.assertEqual(ask_last(*sifter([(9, 1), (8, 2), (1, 9), (2, 8)]), best_sieves(1)), [6, 2])

    def test_two_sieves_round_the_bran(self):
        self.assertEqual(ask_last(*sifter([(9, 1), (1, 9), (2, 8), (7, 0)]), best_sieves(2)), [4, 1, 3])

    def test_no_sieves(self):
        self.assertEqual(ask_last(*sifter([(9, 1), (1, 8)]), best_sieves(0)), [9])
        self.assertEqual(ask_last(create(), add_size(3, 5), best_sieves(0)), [3])

    def test_sieves_at_all_positions(self):
        sizes = [(9, 1), (1, 9)] * 5
        self.assertEqual(ask_last(*sifter(sizes), best_sieves(9)), [10, 1, 2, 3, 4, 5, 6, 7, 8, 9])

    def test_more_sieves_than_are_of_use_are_placed_all_the_same(self):
        self.assertEqual(ask_last(*sifter([(9, 0)] * 4), best_sieves(2)), [0, 1, 2])


class Ties(unittest.TestCase):
    def test_all_lists_alike(self):
        for count in range(10):
            self.assertEqual(ask_last(*sifter([(0, 0)] * 10), best_sieves(count)), [0, *range(1, count + 1)])

    def test_the_smallest_of_two_positions(self):
        self.assertEqual(ask_last(*sifter([(10, 1), (4, 4), (2, 9)]), best_sieves(1)), [7, 1])

    def test_a_smallest_list_that_is_not_the_first_of_all(self):
        self.assertEqual(ask_last(*sifter([(9, 0), (9, 0), (3, 3), (0, 9)]), best_sieves(1)), [3, 2])

    def test_a_later_position_decides(self):
        sizes = [(9, 0), (0, 9), (4, 4), (9, 0), (0, 0), (0, 0)]
        self.assertEqual(ask_last(*sifter(sizes), best_sieves(2)), [4, 1, 2])

    def test_a_position_of_no_worth_goes_to_the_front(self):
        self.assertEqual(ask_last(*sifter([(9, 0), (9, 0), (9, 0), (0, 9)]), best_sieves(2)), [0, 1, 3])


class Refused(unittest.TestCase):
    def test_no_sizes(self):
        for count in [0, 1, LARGEST]:
            self.assertEqual(ask_last(create(), best_sieves(count)), OUTSIDE_LIMITS)
            self.assertEqual(ask_last(*sifter([(1, 1)]), remove_last_size(), best_sieves(count)), OUTSIDE_LIMITS)

    def test_as_many_sieves_as_sizes_or_more(self):
        for size_count in range(1, 11):
            for count in [size_count, size_count + 1, LARGEST]:
                self.assertEqual(ask_last(*sifter([(1, 2)] * size_count), best_sieves(count)), OUTSIDE_LIMITS)

    def test_one_sieve_less_than_sizes(self):
        for size_count in range(1, 11):
            answered = ask_last(*sifter([(1, 2)] * size_count), best_sieves(size_count - 1))
            self.assertEqual(answered, [size_count, *range(1, size_count)])


class State(unittest.TestCase):
    def test_the_current_sieves_do_not_matter_and_stay(self):
        sizes = [(9, 1), (8, 2), (1, 9), (2, 8)]
        looks = [get_sizes(), get_sieves(), get_classes()]
        for positions in [[], [1], [3], [1, 2, 3]]:
            parts = ask(*sifter(sizes, positions), *looks, best_sieves(1), *looks)
            self.assertEqual(parts[-4], [6, 2])
            self.assertEqual(parts[-3:], parts[-7:-4])


class ApplyBestSieves(unittest.TestCase):
    SIZES = [(9, 1), (8, 2), (1, 9), (2, 8)]

    def assert_applied(self, sizes, positions, count, amount, best):
        """With sieves at the positions, the call answers the amount, and leaves these best sieves and the sizes."""
        calls = [*sifter(sizes, positions), apply_best_sieves(count), get_sieves(), misplaced(), get_sizes()]
        kept = [len(sizes)] + [number for pair in sizes for number in pair]
        self.assertEqual(ask(*calls)[-4:], [[amount], [count, *best], [amount], kept])

    def test_it_replaces_all_sieves(self):
        for positions in [[], [1], [2], [1, 3], [1, 2, 3]]:
            self.assert_applied(self.SIZES, positions, 0, 20, [])
            self.assert_applied(self.SIZES, positions, 1, 6, [2])
            self.assert_applied(self.SIZES, positions, 2, 6, [1, 2])
            self.assert_applied(self.SIZES, positions, 3, 6, [1, 2, 3])

    def test_the_classes_follow(self):
        calls = [*sifter(self.SIZES, [1, 3]), apply_best_sieves(1), get_classes()]
        self.assertEqual(ask_last(*calls), [2, 2, 17, 3, 2, 3, 17])

    def test_ties_go_to_the_smallest_list(self):
        for count in range(10):
            self.assert_applied([(0, 0)] * 10, [5, 9], count, 0, range(1, count + 1))
        self.assert_applied([(9, 0), (9, 0), (3, 3), (0, 9)], [1], 1, 3, [2])

    def test_one_size(self):
        self.assert_applied([(3, 5)], [], 0, 3, [])

    def test_ten_sizes(self):
        self.assert_applied([(9, 1), (1, 9)] * 5, [4], 9, 10, range(1, 10))

    def test_no_sizes(self):
        for count in [0, 1, LARGEST]:
            calls = [create(), apply_best_sieves(count), get_sieves()]
            self.assertEqual(ask(*calls), [[0], OUTSIDE_LIMITS, [0]])

    def test_as_many_sieves_as_sizes_or_more(self):
        for size_count in range(1, 11):
            sieves = range(1, size_count, 2)
            for count in [size_count, size_count + 1, LARGEST]:
                calls = [*sifter([(1, 2)] * size_count, sieves), apply_best_sieves(count), get_sieves()]
                self.assertEqual(ask(*calls)[-2:], [OUTSIDE_LIMITS, [len(sieves), *sieves]])

    def test_the_sieves_do_not_follow_the_sizes_afterwards(self):
        calls = [*sifter([(9, 1), (1, 9), (1, 9)]), apply_best_sieves(1), add_size(0, 50), add_size(60, 0),
                 get_sieves(), apply_best_sieves(1), get_sieves()]
        self.assertEqual(ask(*calls)[-6:], [[3], [3], [4], [1, 1], [11], [1, 4]])

    def test_against_a_plain_search(self):
        for sizes in many_sizes(Random(5), 1):
            for count in range(len(sizes)):
                amount, positions = plain_best(sizes, count)
                self.assert_applied(sizes, range(1, len(sizes), 3), count, amount, positions)


class PlainSearch(unittest.TestCase):
    def assert_best(self, sizes):
        """Every count answers the lowest amount of all lists, and the smallest list that has it."""
        calls = [*sifter(sizes), *[best_sieves(count) for count in range(len(sizes))]]
        best = [plain_best(sizes, count) for count in range(len(sizes))]
        expected = [[amount, *positions] for amount, positions in best]
        answered = ask(*calls)[-len(sizes):]
        self.assertEqual(answered, expected, sizes)
        return answered

    def test_all_lists_of_up_to_four_sizes_with_small_amounts(self):
        pairs = [(0, 0), (0, 1), (1, 0), (1, 1), (2, 1)]
        lists = [[pair] for pair in pairs]
        for _ in range(3):
            for sizes in lists:
                self.assert_best(sizes)
            lists = [[*sizes, pair] for sizes in lists for pair in pairs]
        for sizes in lists:
            self.assert_best(sizes)

    def test_many_lists_with_few_ties_and_with_many(self):
        source = Random(1)
        for most in [99, 20, 3, 1]:
            for size_count in range(5, 11):
                for _ in range(6):
                    self.assert_best([(source.randint(0, most), source.randint(0, most)) for _ in range(size_count)])

    def test_another_sieve_never_misplaces_more_and_what_is_told_is_so(self):
        source = Random(3)
        for most in [99, 4]:
            sizes = [(source.randint(0, most), source.randint(0, most)) for _ in range(10)]
            best = self.assert_best(sizes)
            amounts = [answered[0] for answered in best]
            self.assertEqual(amounts, sorted(amounts, reverse=True))
            for answered in best:
                self.assertEqual(ask_last(*sifter(sizes), set_sieves(*answered[1:])), [answered[0]])


if __name__ == "__main__":
    unittest.main()
