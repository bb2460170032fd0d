"""most_even_sieves and evaluate_sieves."""

import unittest
from random import Random

from tests.helper import (
    LARGEST, OUTSIDE_LIMITS, add_size, all_lists_of_positions, ask, ask_each, ask_last, best_sieves, create,
    evaluate_sieves, get_classes, get_sieves, get_sizes, many_sizes, misplaced, most_even_sieves, plain_heaviest,
    plain_misplaced, plain_most_even, remove_last_size, set_sieves, sifter,
)

FOUR = [(5, 1), (2, 6), (3, 3), (0, 8)]
TEN = [(size, 90 + size) for size in range(10)]


def of_weights(*weights):
    """Sizes of these weights, which are flour, bran or some of both."""
    return [[(weight, 0), (0, weight), (weight // 2, weight - weight // 2)][size % 3]
            for size, weight in enumerate(weights)]


class MostEvenSieves(unittest.TestCase):
    def assert_most_even(self, sizes, *expected):
        """expected: what is answered for each count from 0."""
        answered = ask_each(sifter(sizes), [most_even_sieves(count) for count in range(len(expected))])
        self.assertEqual(answered, list(expected))

    def test_every_count(self):
        self.assert_most_even(FOUR, [28], [14, 2], [14, 1, 2], [8, 1, 2, 3], OUTSIDE_LIMITS)

    def test_one_size(self):
        self.assert_most_even([(3, 4)], [7], OUTSIDE_LIMITS)
        self.assert_most_even([(0, 0)], [0], OUTSIDE_LIMITS)

    def test_flour_and_bran_both_count(self):
        self.assert_most_even([(0, 9), (5, 0), (5, 0)], [19], [10, 1])
        self.assert_most_even([(9, 0), (0, 5), (0, 5)], [19], [10, 1])
        self.assert_most_even([(3, 6), (4, 1), (2, 3)], [19], [10, 1])

    def test_it_is_not_the_number_of_sizes_that_is_even(self):
        self.assert_most_even(of_weights(9, 1, 1, 1, 1, 1), [14], [9, 1], [9, 1, 2])

    def test_it_is_not_the_difference_that_is_lowest(self):
        self.assert_most_even(of_weights(1, 6, 3, 3), [13], [7, 2], [6, 1, 2])

    def test_it_is_not_the_misplaced_amount(self):
        sizes = [(9, 0), (9, 0), (9, 0), (0, 9)]
        self.assert_most_even(sizes, [36], [18, 2])
        self.assertEqual(ask_last(*sifter(sizes), best_sieves(1)), [0, 3])

    def test_sieves_at_all_positions(self):
        self.assertEqual(ask_last(*sifter(TEN), most_even_sieves(9)), [108, *range(1, 10)])

    def test_the_largest_weight(self):
        self.assertEqual(ask_last(*sifter([(99, 99)] * 10), most_even_sieves(0)), [1980])


class Ties(unittest.TestCase):
    def test_all_lists_alike(self):
        for count in range(10):
            self.assertEqual(ask_last(*sifter([(0, 0)] * 10), most_even_sieves(count)), [0, *range(1, count + 1)])

    def test_the_smallest_of_two_positions(self):
        self.assertEqual(ask_last(*sifter([(10, 1), (4, 4), (2, 9)]), most_even_sieves(1)), [19, 1])

    def test_a_smallest_list_that_is_not_the_first_of_all(self):
        self.assertEqual(ask_last(*sifter(of_weights(4, 4, 0, 8)), most_even_sieves(1)), [8, 2])

    def test_a_later_position_decides(self):
        self.assertEqual(ask_last(*sifter(of_weights(4, 1, 3, 0, 4)), most_even_sieves(2)), [4, 1, 3])

    def test_a_position_of_no_worth_goes_to_the_front(self):
        self.assertEqual(ask_last(*sifter(of_weights(1, 1, 1, 9)), most_even_sieves(2)), [9, 1, 3])
        self.assertEqual(ask_last(*sifter(of_weights(3, 3, 3, 9, 9)), most_even_sieves(3)), [9, 1, 3, 4])


class MostEvenRefused(unittest.TestCase):
    def test_no_sizes(self):
        for count in [0, 1, LARGEST]:
            self.assertEqual(ask_last(create(), most_even_sieves(count)), OUTSIDE_LIMITS)
            self.assertEqual(ask_last(*sifter([(1, 1)]), remove_last_size(), most_even_sieves(count)), OUTSIDE_LIMITS)

    def test_as_many_sieves_as_sizes_or_more(self):
        for size_count in range(1, 11):
            refused = [most_even_sieves(count) for count in (size_count, size_count + 1, LARGEST)]
            self.assertEqual(ask_each(sifter([(1, 2)] * size_count), refused), [OUTSIDE_LIMITS] * 3)

    def test_one_sieve_less_than_sizes(self):
        for size_count in range(1, 11):
            answered = ask_last(*sifter([(1, 2)] * size_count), most_even_sieves(size_count - 1))
            self.assertEqual(answered, [3, *range(1, size_count)])


class EvaluateSieves(unittest.TestCase):
    def test_the_misplaced_amount_and_the_heaviest_weight(self):
        expected = {(): [10, 28], (1,): [6, 22], (2,): [10, 14], (3,): [10, 20], (1, 2): [6, 14], (1, 3): [6, 14],
                    (2, 3): [10, 14], (1, 2, 3): [6, 8]}
        answered = ask_each(sifter(FOUR), [evaluate_sieves(*positions) for positions in expected])
        self.assertEqual(answered, list(expected.values()))

    def test_no_sizes(self):
        answered = ask_each([create()], [evaluate_sieves(), evaluate_sieves(0), evaluate_sieves(1)])
        self.assertEqual(answered, [[0, 0], OUTSIDE_LIMITS, OUTSIDE_LIMITS])

    def test_one_size(self):
        answered = ask_each(sifter([(5, 8)]), [evaluate_sieves(), evaluate_sieves(0), evaluate_sieves(1)])
        self.assertEqual(answered, [[5, 13], OUTSIDE_LIMITS, OUTSIDE_LIMITS])

    def test_ten_sizes(self):
        self.assertEqual(ask_last(*sifter(TEN), evaluate_sieves(*range(1, 10))), [45, 108])
        self.assertEqual(ask_last(*sifter([(99, 99)] * 10), evaluate_sieves()), [990, 1980])

    def test_the_heaviest_class_may_stand_anywhere(self):
        for sizes in [[(9, 8), (1, 1), (1, 2)], [(1, 1), (9, 8), (1, 2)], [(1, 1), (1, 2), (9, 8)]]:
            self.assertEqual(ask_last(*sifter(sizes), evaluate_sieves(1, 2)), [10, 17])

    def test_numbers_that_are_no_positions(self):
        for positions in [[0], [4], [5], [LARGEST], [0, 1], [1, 4], [1, 2, 3, 4], [0, 1, 2, 3], [2, LARGEST]]:
            self.assertEqual(ask_last(*sifter(FOUR, [1]), evaluate_sieves(*positions)), OUTSIDE_LIMITS)

    def test_lists_that_are_not_strictly_increasing(self):
        for positions in [[1, 1], [2, 1], [1, 3, 2], [1, 2, 2], [3, 3, 3], [3, 1, 2], [1, 3, 1]]:
            self.assertEqual(ask_last(*sifter(FOUR, [1]), evaluate_sieves(*positions)), OUTSIDE_LIMITS)

    def test_twelve_numbers(self):
        for positions in [range(1, 13), range(12), [1] * 12]:
            self.assertEqual(ask_last(*sifter(TEN, [4]), evaluate_sieves(*positions)), OUTSIDE_LIMITS)

    def test_the_state_does_not_matter_and_stays(self):
        looks = [get_sizes(), get_sieves(), get_classes(), misplaced()]
        for current in all_lists_of_positions(FOUR):
            for positions, expected in [([2], [10, 14]), ([1, 2, 3], [6, 8]), ([], [10, 28]), ([4], OUTSIDE_LIMITS)]:
                parts = ask(*sifter(FOUR, current), *looks, evaluate_sieves(*positions), *looks)
                self.assertEqual(parts[-5], expected)
                self.assertEqual(parts[-4:], parts[-9:-5])

    def test_it_tells_what_set_sieves_does(self):
        for positions in all_lists_of_positions(FOUR):
            calls = [*sifter(FOUR), evaluate_sieves(*positions), set_sieves(*positions), get_classes()]
            evaluated, placed, classes = ask(*calls)[-3:]
            weights = [classes[at] + classes[at + 1] for at in range(2, len(classes), 3)]
            self.assertEqual(evaluated, [placed[0], max(weights)])


class PlainSearch(unittest.TestCase):
    def test_every_count_has_the_lowest_weight_and_the_smallest_list(self):
        for sizes in many_sizes(Random(21), 3):
            counts = range(len(sizes))
            best = [plain_most_even(sizes, count) for count in counts]
            answered = ask_each(sifter(sizes), [most_even_sieves(count) for count in counts])
            self.assertEqual(answered, [[weight, *positions] for weight, positions in best], sizes)

    def test_every_list_is_evaluated(self):
        for sizes in many_sizes(Random(22), 1):
            lists = all_lists_of_positions(sizes)
            answered = ask_each(sifter(sizes), [evaluate_sieves(*positions) for positions in lists])
            expected = [[plain_misplaced(sizes, positions), plain_heaviest(sizes, positions)] for positions in lists]
            self.assertEqual(answered, expected, sizes)

    def test_the_current_sieves_do_not_matter_and_stay(self):
        for positions in [[], [1], [3], [1, 2, 3]]:
            calls = [*sifter(FOUR, positions), most_even_sieves(1), get_sieves(), get_sizes()]
            expected = [[14, 2], [len(positions), *positions], [4, 5, 1, 2, 6, 3, 3, 0, 8]]
            self.assertEqual(ask(*calls)[-3:], expected)

    def test_it_follows_the_sizes(self):
        calls = [*sifter(FOUR), add_size(20, 0), most_even_sieves(1), remove_last_size(), most_even_sieves(1)]
        self.assertEqual(ask(*calls)[-4:], [[4], [28, 3], [4], [14, 2]])


if __name__ == "__main__":
    unittest.main()
