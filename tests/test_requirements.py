"""The six requirements, each over many requests: what a call answers is held against what the others answer."""

import unittest
from random import Random

from tests.helper import (
    add_sieve, add_size, all_lists_of_positions, all_position_lists, apply_best_sieves, ask, ask_each, ask_last,
    best_sieves, destination, evaluate_sieves, gain_of_sieve, get_classes, get_sieves, get_sizes, lower_bound,
    many_sizes, misplaced, most_even_sieves, plain_heaviest, plain_misplaced, remove_last_size, remove_sieve,
    set_sieves, set_size, sifter, some_sizes,
)


def evaluated(sizes, lists):
    """The misplaced amount and the heaviest weight that the program tells for each list."""
    return ask_each(sifter(sizes), [evaluate_sieves(*positions) for positions in lists])


class BestSievesAreOptimal(unittest.TestCase):
    """Requirement 1."""

    def assert_none_is_better(self, sizes, count):
        amount, *positions = ask_last(*sifter(sizes), best_sieves(count))
        lists = all_position_lists(sizes, count)
        self.assertIn(positions, lists)
        amounts = [parts[0] for parts in evaluated(sizes, lists)]
        self.assertEqual(amounts, [plain_misplaced(sizes, other) for other in lists])
        self.assertEqual(amount, min(amounts), sizes)
        # The lists stand in lexicographic order: the first that has the amount is the smallest.
        self.assertEqual(positions, lists[amounts.index(amount)], sizes)
        applied = ask(*sifter(sizes, lists[-1]), apply_best_sieves(count), get_sieves(), misplaced())[-3:]
        self.assertEqual(applied, [[amount], [count, *positions], [amount]], sizes)

    def test_against_all_lists_of_as_many_positions(self):
        for sizes in many_sizes(Random(41), 2):
            for count in range(len(sizes)):
                self.assert_none_is_better(sizes, count)


class AnAdditionalSieveNeverMisplacesMore(unittest.TestCase):
    """Requirement 2."""

    def test_added_to_the_current_sieves(self):
        source = Random(42)
        for sizes in many_sizes(source, 1):
            for positions in all_lists_of_positions(sizes)[::7]:
                for added in [position for position in range(1, len(sizes)) if position not in positions]:
                    calls = [*sifter(sizes, positions), misplaced(), add_sieve(added), misplaced(), get_sieves()]
                    before, answered, after, sieves = ask(*calls)[-4:]
                    self.assertLessEqual(after[0], before[0], sizes)
                    self.assertEqual(answered, after)
                    self.assertEqual(sieves, [len(positions) + 1, *sorted([*positions, added])])

    def test_one_after_another_up_to_all_and_back(self):
        source = Random(43)
        for sizes in many_sizes(source, 3):
            order = source.sample(range(1, len(sizes)), len(sizes) - 1)
            calls = [misplaced(), *[add_sieve(position) for position in order],
                     *[remove_sieve(position) for position in reversed(order)]]
            amounts = [part[0] for part in ask(*sifter(sizes), *calls)[-len(calls):]]
            up = amounts[:len(sizes)]
            self.assertEqual(up, sorted(up, reverse=True), sizes)
            self.assertEqual(amounts[len(sizes) - 1:], up[::-1], sizes)

    def test_all_chosen_again(self):
        for sizes in many_sizes(Random(44), 4):
            counts = range(len(sizes))
            amounts = [parts[0] for parts in ask_each(sifter(sizes), [best_sieves(count) for count in counts])]
            self.assertEqual(amounts, sorted(amounts, reverse=True), sizes)
            applied = ask(*sifter(sizes), *[apply_best_sieves(count) for count in counts])[-len(sizes):]
            self.assertEqual(applied, [[amount] for amount in amounts], sizes)
            for gain in ask_each(sifter(sizes), [gain_of_sieve(count) for count in counts[1:]]):
                self.assertGreaterEqual(gain[0], 0, sizes)


class SievesAreNeededOnlyWhereTheDestinationChanges(unittest.TestCase):
    """Requirement 3."""

    def test_there_they_reach_the_lower_bound(self):
        for sizes in many_sizes(Random(45), 6):
            alone = [ask_last(*sifter([amounts]), destination(0)) for amounts in sizes]
            changes = [position for position in range(1, len(sizes)) if alone[position - 1] != alone[position]]
            bound, amount, least = ask(*sifter(sizes), lower_bound(), set_sieves(*changes), best_sieves(len(changes)))[
                -3:]
            self.assertEqual(amount, bound, sizes)
            self.assertEqual(least[0], bound[0], sizes)

    def test_a_size_alone_goes_where_a_class_of_its_own_goes(self):
        for sizes in many_sizes(Random(46), 2):
            alone = [ask_last(*sifter([amounts]), destination(0)) for amounts in sizes]
            before = sifter(sizes, range(1, len(sizes)))
            self.assertEqual(ask_each(before, [destination(size) for size in range(len(sizes))]), alone, sizes)


class NoneBelowTheLowerBound(unittest.TestCase):
    """Requirement 4."""

    def test_no_list_is_below_and_all_positions_reach_it(self):
        for sizes in many_sizes(Random(47), 2):
            lists = all_lists_of_positions(sizes)
            bound = ask_last(*sifter(sizes), lower_bound())[0]
            self.assertEqual(bound, sum(min(amounts) for amounts in sizes))
            amounts = [parts[0] for parts in evaluated(sizes, lists)]
            self.assertEqual(min(amounts), bound, sizes)
            # The last list is that of all positions.
            self.assertEqual(lists[-1], list(range(1, len(sizes))))
            self.assertEqual(amounts[-1], bound, sizes)
            self.assertEqual(ask_last(*sifter(sizes), set_sieves(*lists[-1])), [bound], sizes)


class TheClassesContainAllSizesInOrder(unittest.TestCase):
    """Requirement 5."""

    def assert_all_in_order(self, calls, message):
        """The classes take the sizes one behind another, as the sieves tell, until none is left."""
        amounts, sieves, numbers = ask(*calls, get_sizes(), get_sieves(), get_classes())[-3:]
        sizes = list(zip(amounts[1::2], amounts[2::2]))
        self.assertEqual(len(sizes), amounts[0])
        rows = [numbers[start:start + 3] for start in range(1, len(numbers), 3)]
        self.assertEqual(numbers[0], len(rows))
        self.assertEqual(len(rows), sieves[0] + 1)
        start = 0
        for size_count, flour, bran in rows:
            part = sizes[start:start + size_count]
            self.assertEqual([flour, bran], [sum(pair[0] for pair in part), sum(pair[1] for pair in part)], message)
            start += size_count
            if start < len(sizes):
                self.assertIn(start, sieves[1:], message)
                self.assertGreater(size_count, 0, message)
        self.assertEqual(start, len(sizes), message)

    def test_no_sizes(self):
        self.assert_all_in_order(sifter([]), "none")
        self.assert_all_in_order([*sifter([(1, 2), (3, 4)], [1]), remove_last_size(), remove_last_size()], "none left")

    def test_with_all_lists_of_positions(self):
        for sizes in many_sizes(Random(48), 1):
            for positions in all_lists_of_positions(sizes)[::3]:
                self.assert_all_in_order(sifter(sizes, positions), sizes)

    def test_behind_whatever_changes(self):
        source = Random(49)
        for _ in range(200):
            calls = sifter(some_sizes(source, source.randint(0, 10), 99))
            for _ in range(source.randint(1, 40)):
                number = source.randrange(11)
                calls.append(source.choice([
                    add_size(number, 7), remove_last_size(), set_size(number, 3, number), add_sieve(number),
                    add_sieve(number), remove_sieve(number), apply_best_sieves(number), set_sieves(number)]))
            self.assert_all_in_order(calls, calls)


class NoneMoreEven(unittest.TestCase):
    """Requirement 6."""

    def assert_none_is_more_even(self, sizes, count):
        weight, *positions = ask_last(*sifter(sizes), most_even_sieves(count))
        lists = all_position_lists(sizes, count)
        self.assertIn(positions, lists)
        weights = [parts[1] for parts in evaluated(sizes, lists)]
        self.assertEqual(weights, [plain_heaviest(sizes, other) for other in lists])
        self.assertEqual(weight, min(weights), sizes)
        self.assertEqual(positions, lists[weights.index(weight)], sizes)

    def test_against_all_lists_of_as_many_positions(self):
        for sizes in many_sizes(Random(50), 2):
            for count in range(len(sizes)):
                self.assert_none_is_more_even(sizes, count)


if __name__ == "__main__":
    unittest.main()
