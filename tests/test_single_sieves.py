"""add_sieve and remove_sieve."""

import unittest

from tests.helper import (
    ALREADY_THERE, LARGEST, NOT_THERE, OUTSIDE_LIMITS, add_sieve, add_size, all_lists_of_positions, ask, ask_last,
    create, get_classes, get_sieves, get_sizes, misplaced, plain_misplaced, remove_last_size, remove_sieve,
    set_sieves, sifter,
)

FOUR = [(5, 1), (2, 6), (3, 3), (0, 8)]
TEN = [(size, 90 + size) for size in range(10)]


class AddSieve(unittest.TestCase):
    def test_it_answers_the_misplaced_amount_afterwards(self):
        calls = [*sifter([(9, 1), (1, 9), (9, 1)]), misplaced(), add_sieve(2), misplaced(), add_sieve(1), misplaced()]
        self.assertEqual(ask(*calls)[-5:], [[11], [11], [11], [3], [3]])

    def test_the_positions_stay_in_increasing_order(self):
        added = [(3, [3]), (1, [1, 3]), (9, [1, 3, 9]), (2, [1, 2, 3, 9]), (8, [1, 2, 3, 8, 9])]
        calls = sifter(TEN)
        for position, positions in added:
            calls += [add_sieve(position), get_sieves()]
            self.assertEqual(ask_last(*calls), [len(positions), *positions])

    def test_the_classes_follow(self):
        calls = [*sifter(FOUR, [3]), add_sieve(1), get_classes()]
        self.assertEqual(ask(*calls)[-2:], [[6], [3, 1, 5, 1, 2, 5, 9, 1, 0, 8]])

    def test_no_sizes(self):
        for position in [0, 1, 2, LARGEST]:
            self.assertEqual(ask(create(), add_sieve(position), get_sieves()), [[0], OUTSIDE_LIMITS, [0]])

    def test_one_size(self):
        for position in [0, 1, 2, LARGEST]:
            calls = [create(), add_size(3, 4), add_sieve(position), get_sieves()]
            self.assertEqual(ask(*calls)[-2:], [OUTSIDE_LIMITS, [0]])

    def test_two_sizes(self):
        calls = [*sifter([(9, 0), (0, 8)]), add_sieve(0), add_sieve(2), add_sieve(1), add_sieve(1), get_sieves()]
        self.assertEqual(ask(*calls)[-5:], [OUTSIDE_LIMITS, OUTSIDE_LIMITS, [0], ALREADY_THERE, [1, 1]])

    def test_the_first_and_the_last_position_of_ten_sizes(self):
        calls = [*sifter(TEN), add_sieve(9), add_sieve(1), get_sieves()]
        self.assertEqual(ask_last(*calls), [2, 1, 9])

    def test_what_is_no_position(self):
        for sizes in [FOUR, TEN]:
            for positions in [[], [2], range(1, len(sizes))]:
                for position in [0, len(sizes), len(sizes) + 1, LARGEST]:
                    calls = [*sifter(sizes, positions), add_sieve(position), get_sieves()]
                    self.assertEqual(ask(*calls)[-2:], [OUTSIDE_LIMITS, [len(positions), *positions]])

    def test_a_position_that_is_taken(self):
        for position in [1, 4, 9]:
            calls = [*sifter(TEN, [1, 4, 9]), add_sieve(position), get_sieves()]
            self.assertEqual(ask(*calls)[-2:], [ALREADY_THERE, [3, 1, 4, 9]])

    def test_a_position_that_was_taken(self):
        calls = [*sifter(FOUR, [1, 3]), remove_sieve(1), add_sieve(1), remove_last_size(), add_sieve(3), get_sieves()]
        self.assertEqual(ask(*calls)[-5:], [[10], [6], [3], OUTSIDE_LIMITS, [1, 1]])

    def test_from_every_list_of_positions(self):
        for positions in all_lists_of_positions(FOUR):
            for position in range(1, 4):
                calls = [*sifter(FOUR, positions), add_sieve(position), get_sieves()]
                afterwards = sorted({*positions, position})
                amount = plain_misplaced(FOUR, afterwards)
                expected = ALREADY_THERE if position in positions else [amount]
                self.assertEqual(ask(*calls)[-2:], [expected, [len(afterwards), *afterwards]])


class RemoveSieve(unittest.TestCase):
    def test_it_answers_the_misplaced_amount_afterwards(self):
        calls = [*sifter([(9, 1), (1, 9), (9, 1)], [1, 2]), remove_sieve(1), misplaced(), remove_sieve(2), misplaced()]
        self.assertEqual(ask(*calls)[-5:], [[3], [11], [11], [11], [11]])

    def test_the_other_sieves_stay(self):
        calls = sifter(TEN, [1, 3, 5, 9])
        for position, positions in [(3, [1, 5, 9]), (9, [1, 5]), (1, [5]), (5, [])]:
            calls += [remove_sieve(position), get_sieves()]
            self.assertEqual(ask_last(*calls), [len(positions), *positions])

    def test_the_sizes_stay_and_the_classes_follow(self):
        calls = [*sifter(FOUR, [1, 3]), remove_sieve(3), get_classes(), get_sizes()]
        self.assertEqual(ask(*calls)[-3:], [[6], [2, 1, 5, 1, 3, 5, 17], [4, 5, 1, 2, 6, 3, 3, 0, 8]])

    def test_no_sizes_and_one(self):
        for position in [0, 1, 2, LARGEST]:
            self.assertEqual(ask_last(create(), remove_sieve(position)), NOT_THERE)
            self.assertEqual(ask_last(create(), add_size(3, 4), remove_sieve(position)), NOT_THERE)

    def test_where_no_sieve_is(self):
        for position in [0, 1, 3, 4, 5, 10, LARGEST]:
            calls = [*sifter(FOUR, [2]), remove_sieve(position), get_sieves(), misplaced()]
            self.assertEqual(ask(*calls)[-3:], [NOT_THERE, [1, 2], [10]])

    def test_twice(self):
        calls = [*sifter(FOUR, [1, 2]), remove_sieve(2), remove_sieve(2), get_sieves()]
        self.assertEqual(ask(*calls)[-3:], [[6], NOT_THERE, [1, 1]])

    def test_a_sieve_that_went_with_its_size(self):
        calls = [*sifter(FOUR, [1, 3]), remove_last_size(), remove_sieve(3), remove_sieve(1), get_sieves()]
        self.assertEqual(ask(*calls)[-4:], [[3], NOT_THERE, [10], [0]])

    def test_it_can_be_added_again(self):
        calls = [*sifter(FOUR, [1, 3]), remove_sieve(1), add_sieve(1), get_sieves(), set_sieves()]
        self.assertEqual(ask(*calls)[-4:], [[10], [6], [2, 1, 3], [10]])

    def test_from_every_list_of_positions(self):
        for positions in all_lists_of_positions(FOUR):
            for position in range(5):
                calls = [*sifter(FOUR, positions), remove_sieve(position), get_sieves()]
                afterwards = [other for other in positions if other != position]
                expected = [plain_misplaced(FOUR, afterwards)] if position in positions else NOT_THERE
                self.assertEqual(ask(*calls)[-2:], [expected, [len(afterwards), *afterwards]])


if __name__ == "__main__":
    unittest.main()
