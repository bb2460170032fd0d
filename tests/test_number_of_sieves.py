"""sieves_needed, lower_bound, gain_of_sieve."""

import unittest
from random import Random

from tests.helper import (
    LARGEST, NEVER_ENOUGH, OUTSIDE_LIMITS, add_size, ask, ask_each, ask_last, best_sieves, create, gain_of_sieve,
    get_sieves, get_sizes, lower_bound, many_sizes, misplaced, plain_best, remove_last_size, set_size, sieves_needed,
    sifter,
)

# 0 to 9 sieves misplace 50, 42, 42, 34, 34, 26, 26, 18, 18, 10: every second one is of no use.
TEN = [(9, 1), (1, 9)] * 5


class SievesNeeded(unittest.TestCase):
    def assert_needed(self, sizes, expected):
        """expected: what is answered for each limit."""
        answered = ask_each(sifter(sizes), [sieves_needed(limit) for limit in expected])
        self.assertEqual(answered, list(expected.values()))

    def test_no_sizes(self):
        self.assert_needed([], {0: [0], 1: [0], LARGEST: [0]})
        self.assertEqual(ask_last(create(), add_size(5, 5), remove_last_size(), sieves_needed(0)), [0])

    def test_one_size(self):
        self.assert_needed([(3, 5)], {0: NEVER_ENOUGH, 2: NEVER_ENOUGH, 3: [0], 4: [0], LARGEST: [0]})
        self.assert_needed([(5, 3)], {2: NEVER_ENOUGH, 3: [0]})
        self.assert_needed([(0, 0)], {0: [0]})

    def test_a_limit_just_enough_and_one_just_not(self):
        self.assert_needed(TEN, {
            50: [0], 49: [1], 42: [1], 41: [3], 34: [3], 33: [5], 26: [5], 25: [7], 18: [7], 17: [9], 10: [9],
            9: NEVER_ENOUGH, 0: NEVER_ENOUGH})

    def test_no_sieves_are_enough(self):
        self.assert_needed([(9, 0)] * 10, {0: [0], 1: [0], LARGEST: [0]})
        self.assert_needed([(99, 99)] * 10, {990: [0], 989: NEVER_ENOUGH, LARGEST: [0]})

    def test_sieves_at_all_positions_are_just_enough(self):
        self.assert_needed([(9, 0), (0, 9)], {8: [1], 0: [1], 9: [0]})
        self.assert_needed([(9, 0), (0, 9)] * 5, {0: [9]})

    def test_the_current_sieves_do_not_matter_and_stay(self):
        for positions in [[], [2, 4], range(1, 10)]:
            calls = [*sifter(TEN, positions), sieves_needed(42), sieves_needed(9), get_sieves(), get_sizes()]
            looks = ask(*calls)[-4:]
            self.assertEqual(looks[:3], [[1], NEVER_ENOUGH, [len(positions), *positions]])
            self.assertEqual(looks[3], [10] + [amount for pair in TEN for amount in pair])

    def test_it_follows_the_sizes(self):
        changes = [sieves_needed(5), set_size(1, 9, 1), sieves_needed(5), add_size(0, 9), sieves_needed(5)]
        self.assertEqual(ask(*sifter([(9, 1), (1, 9)]), *changes)[-5:], [[1], [0, 1, 9], [0], [2], [1]])

    def test_against_a_plain_search(self):
        source = Random(11)
        for sizes in many_sizes(source, 2):
            amounts = [plain_best(sizes, count)[0] for count in range(len(sizes))]
            limits = sorted({max(0, amount + change) for amount in [0, *amounts] for change in (-1, 0, 1)})
            expected = [[next((count for count, amount in enumerate(amounts) if amount <= limit), -33)]
                        for limit in limits]
            self.assertEqual(ask_each(sifter(sizes), [sieves_needed(limit) for limit in limits]), expected, sizes)


class LowerBound(unittest.TestCase):
    def test_no_sizes(self):
        self.assertEqual(ask_last(create(), lower_bound()), [0])

    def test_one_size(self):
        for flour, bran, amount in [(7, 4, 4), (4, 7, 4), (5, 5, 5), (0, 9, 0), (9, 0, 0), (0, 0, 0), (99, 99, 99)]:
            self.assertEqual(ask_last(create(), add_size(flour, bran), lower_bound()), [amount])

    def test_the_sum_over_all_sizes(self):
        self.assertEqual(ask_last(*sifter([(9, 3), (2, 8), (4, 4)]), lower_bound()), [9])
        self.assertEqual(ask_last(*sifter(TEN), lower_bound()), [10])
        self.assertEqual(ask_last(*sifter([(99, 99)] * 10), lower_bound()), [990])

    def test_the_current_sieves_do_not_matter_and_stay(self):
        for positions in [[], [1], [2, 9], range(1, 10)]:
            calls = [*sifter(TEN, positions), lower_bound(), get_sieves()]
            self.assertEqual(ask(*calls)[-2:], [[10], [len(positions), *positions]])

    def test_it_follows_the_sizes(self):
        changes = [lower_bound(), set_size(1, 8, 7), lower_bound(), add_size(6, 50), lower_bound(), remove_last_size(),
                   lower_bound()]
        answered = ask(*sifter([(9, 3), (2, 8)], [1]), *changes)[-7:]
        self.assertEqual(answered, [[5], [0, 2, 8], [10], [2], [16], [2], [10]])


class GainOfSieve(unittest.TestCase):
    def test_each_sieve_in_turn(self):
        gains = ask_each(sifter(TEN), [gain_of_sieve(count) for count in range(1, 10)])
        self.assertEqual(gains, [[8], [0], [8], [0], [8], [0], [8], [0], [8]])

    def test_two_sizes(self):
        self.assertEqual(ask_last(*sifter([(9, 2), (3, 7)]), gain_of_sieve(1)), [4])
        self.assertEqual(ask_last(*sifter([(9, 2), (7, 3)]), gain_of_sieve(1)), [0])

    def test_no_sizes(self):
        for count in [0, 1, 2, LARGEST]:
            self.assertEqual(ask_last(create(), gain_of_sieve(count)), OUTSIDE_LIMITS)

    def test_one_size(self):
        for count in [0, 1, 2, LARGEST]:
            self.assertEqual(ask_last(create(), add_size(3, 4), gain_of_sieve(count)), OUTSIDE_LIMITS)

    def test_counts_outside_the_limits(self):
        for size_count in range(2, 11):
            refused = [gain_of_sieve(count) for count in (0, size_count, size_count + 1, LARGEST)]
            self.assertEqual(ask_each(sifter(TEN[:size_count]), refused), [OUTSIDE_LIMITS] * 4)
            self.assertNotEqual(ask_last(*sifter(TEN[:size_count]), gain_of_sieve(size_count - 1)), OUTSIDE_LIMITS)

    def test_the_current_sieves_do_not_matter_and_stay(self):
        for positions in [[], [4], range(1, 10)]:
            calls = [*sifter(TEN, positions), gain_of_sieve(1), gain_of_sieve(2), get_sieves(), misplaced()]
            answered = ask(*calls)
            self.assertEqual(answered[-4:-1], [[8], [0], [len(positions), *positions]])
            self.assertEqual(answered[-1], answered[-5])

    def test_it_is_the_difference_of_the_best(self):
        source = Random(12)
        for sizes in many_sizes(source, 2):
            counts = range(len(sizes))
            best = [parts[0] for parts in ask_each(sifter(sizes), [best_sieves(count) for count in counts])]
            self.assertEqual(best, [plain_best(sizes, count)[0] for count in counts])
            gains = ask_each(sifter(sizes), [gain_of_sieve(count) for count in counts[1:]])
            self.assertEqual(gains, [[best[count - 1] - best[count]] for count in counts[1:]], sizes)


if __name__ == "__main__":
    unittest.main()
