"""destination and yields."""

import unittest
from random import Random

from tests.helper import (
    LARGEST, NOT_THERE, add_sieve, add_size, all_lists_of_positions, ask, ask_each, ask_last, create, destination,
    get_classes, get_sieves, get_sizes, many_sizes, misplaced, plain_classes, remove_last_size, set_sieves, set_size,
    sifter, yields,
)

FOUR = [(9, 1), (2, 8), (4, 4), (0, 0)]


class Destination(unittest.TestCase):
    def assert_destinations(self, sizes, positions, expected):
        """expected: what is answered for each size, and for one size more."""
        answered = ask_each(sifter(sizes, positions), [destination(size) for size in range(len(expected))])
        self.assertEqual([part[0] for part in answered], expected)

    def test_all_of_a_class_go_where_its_larger_part_belongs(self):
        self.assert_destinations(FOUR, [], [1, 1, 1, 1, -2])
        self.assert_destinations(FOUR, [1], [1, 0, 0, 0, -2])
        self.assert_destinations([(1, 9), (2, 8), (9, 4)], [2], [0, 0, 1, -2])
        self.assert_destinations([(1, 9), (8, 2), (9, 4)], [], [1, 1, 1, -2])
        self.assert_destinations([(9, 1), (2, 8), (4, 9)], [], [0, 0, 0, -2])

    def test_as_much_bran_as_flour_goes_to_flour(self):
        self.assert_destinations([(4, 4)], [], [1, -2])
        self.assert_destinations([(4, 5)], [], [0, -2])
        self.assert_destinations([(5, 4)], [], [1, -2])
        self.assert_destinations(FOUR, [1, 2], [1, 0, 1, 1, -2])
        self.assert_destinations([(9, 1), (1, 9)], [], [1, 1, -2])
        self.assert_destinations([(9, 1), (1, 10)], [], [0, 0, -2])

    def test_a_class_without_weight_goes_to_flour(self):
        self.assert_destinations([(0, 0)], [], [1, -2])
        self.assert_destinations([(0, 1), (0, 0), (0, 1)], [1, 2], [0, 1, 0, -2])

    def test_a_sieve_separates_the_sizes_below_its_position(self):
        sizes = [(9, 0)] * 5 + [(0, 9)] * 5
        for position, expected in [(4, [1, 1, 1, 1, 0, 0, 0, 0, 0, 0]), (5, [1] * 5 + [0] * 5),
                                   (6, [1, 1, 1, 1, 1, 1, 0, 0, 0, 0]), (1, [1] + [0] * 9), (9, [1] * 9 + [0])]:
            self.assert_destinations(sizes, [position], [*expected, -2])

    def test_sieves_at_all_positions_of_ten_sizes(self):
        self.assert_destinations([(9, 1), (1, 9)] * 5, range(1, 10), [1, 0] * 5 + [-2])

    def test_a_size_that_does_not_exist(self):
        for size in [0, 1, LARGEST]:
            self.assertEqual(ask_last(create(), destination(size)), NOT_THERE)
        for size in [4, 5, 10, LARGEST]:
            self.assertEqual(ask_last(*sifter(FOUR, [1]), destination(size)), NOT_THERE)
        for size in [10, 11, LARGEST]:
            self.assertEqual(ask_last(*sifter([(1, 1)] * 10), destination(size)), NOT_THERE)

    def test_a_size_that_was_removed(self):
        calls = [*sifter([(1, 9), (9, 1)], [1]), remove_last_size(), destination(1), destination(0)]
        self.assertEqual(ask(*calls)[-2:], [NOT_THERE, [0]])

    def test_it_follows_the_sizes_and_the_sieves(self):
        calls = [*sifter([(9, 1), (1, 8)]), destination(1), set_size(1, 1, 10), destination(1), destination(0),
                 add_sieve(1), destination(1), destination(0), add_size(20, 0), destination(1), destination(2)]
        answered = ask(*calls)[4:]
        self.assertEqual(answered, [[1], [0, 1, 8], [0], [0], [2], [0], [1], [2], [1], [1]])

    def test_asking_changes_nothing(self):
        looks = [get_sizes(), get_sieves(), get_classes(), misplaced(), yields()]
        for size in [0, 3, 4]:
            parts = ask(*sifter(FOUR, [1, 2]), *looks, destination(size), *looks)
            self.assertEqual(parts[-5:], parts[-11:-6])


class Yields(unittest.TestCase):
    def assert_yields(self, sizes, positions, expected):
        self.assertEqual(ask_last(*sifter(sizes, positions), yields()), expected)

    def test_no_sizes(self):
        self.assert_yields([], [], [0, 0, 0, 0])

    def test_one_size(self):
        self.assert_yields([(7, 4)], [], [7, 4, 7, 4])
        self.assert_yields([(4, 7)], [], [0, 0, 4, 7])
        self.assert_yields([(0, 0)], [], [0, 0, 0, 0])
        self.assert_yields([(0, 99)], [], [0, 0, 0, 99])
        self.assert_yields([(99, 0)], [], [99, 0, 99, 0])

    def test_as_much_bran_as_flour_goes_to_flour(self):
        self.assert_yields([(4, 4)], [], [4, 4, 4, 4])
        self.assert_yields([(4, 5)], [], [0, 0, 4, 5])
        self.assert_yields([(3, 4), (4, 3)], [], [7, 7, 7, 7])
        self.assert_yields(FOUR, [1, 2], [13, 5, 15, 13])

    def test_whole_classes(self):
        self.assert_yields(FOUR, [], [15, 13, 15, 13])
        self.assert_yields(FOUR, [1], [9, 1, 15, 13])
        self.assert_yields(FOUR, [2], [15, 13, 15, 13])
        self.assert_yields(FOUR, [1, 2, 3], [13, 5, 15, 13])
        self.assert_yields([(1, 2), (3, 2), (2, 4)], [1], [0, 0, 6, 8])

    def test_all_classes_to_bran(self):
        self.assert_yields([(1, 2), (3, 4)], [1], [0, 0, 4, 6])

    def test_classes_that_do_not_stand_side_by_side(self):
        self.assert_yields([(5, 1), (2, 6), (7, 3), (1, 8), (9, 0)], [1, 2, 3, 4], [21, 4, 24, 18])

    def test_ten_sizes(self):
        self.assert_yields([(99, 99)] * 10, [4], [990, 990, 990, 990])
        self.assert_yields([(9, 1), (1, 9)] * 5, range(1, 10), [45, 5, 50, 50])

    def test_it_follows_the_sizes_and_the_sieves(self):
        calls = [*sifter([(9, 1), (1, 8)]), yields(), set_sieves(1), yields(), set_size(0, 0, 1), yields(),
                 remove_last_size(), yields()]
        answered = [part for part in ask(*calls)[4:] if len(part) == 4]
        self.assertEqual(answered, [[10, 9, 10, 9], [9, 1, 10, 9], [0, 0, 1, 9], [0, 0, 0, 1]])

    def test_asking_changes_nothing(self):
        looks = [get_sizes(), get_sieves(), get_classes(), misplaced(), destination(1)]
        parts = ask(*sifter(FOUR, [1, 2]), *looks, yields(), *looks)
        self.assertEqual(parts[-5:], parts[-11:-6])


class ManySifters(unittest.TestCase):
    def test_both_agree_with_the_classes_and_with_what_is_misplaced(self):
        for sizes in many_sizes(Random(31), 1):
            for positions in all_lists_of_positions(sizes)[::5]:
                asked = [yields(), misplaced(), *[destination(size) for size in range(len(sizes))]]
                shares, amount, *ways = ask_each(sifter(sizes, positions), asked)
                rows = plain_classes(sizes, positions)
                expected = [[int(bran <= flour)] for number, flour, bran in rows for _ in range(number)]
                self.assertEqual(ways, expected, sizes)
                in_flour = [pair for pair, way in zip(sizes, ways) if way == [1]]
                sums = [sum(pair[part] for pair in chosen) for chosen in (in_flour, sizes) for part in (0, 1)]
                self.assertEqual(shares, sums, sizes)
                # The bran in the flour and the flour in the bran are what is misplaced.
                self.assertEqual(amount, [shares[1] + shares[2] - shares[0]], sizes)


if __name__ == "__main__":
    unittest.main()
