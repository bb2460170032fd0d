"""Lists of sieve positions: which are valid, which there are, which is best."""

from sievecuts.classes import heaviest_weight, misplaced_amount


def are_positions(numbers, size_count):
    """Tell whether the numbers are a strictly increasing list of positions."""
    lowest = 1
    for number in numbers:
        if number < lowest or number >= size_count:
            return False
        lowest = number + 1
    return True


def position_lists(size_count, count):
    """Return all valid lists of that many positions, in lexicographic order."""
    lists = [[]]
    for step in range(count):
        longer = []
        for positions in lists:
            lowest = positions[-1] + 1 if positions else 1
            for position in range(lowest, size_count):
                longer.append(positions + [position])
        lists = longer
    return lists


def lowest_positions(sizes, count, measure):
    """Return the list of that many positions for which the measure of the sizes and the list is lowest."""
    lists = position_lists(len(sizes), count)
    # min keeps the first of equals, which is the lexicographically smallest list.
    return min(lists, key=lambda positions: measure(sizes, positions))


def best_positions(sizes, count):
    """Return the list of that many positions with the lowest misplaced amount."""
    return lowest_positions(sizes, count, misplaced_amount)


def most_even_positions(sizes, count):
    """Return the list of that many positions with the lowest heaviest weight."""
    return lowest_positions(sizes, count, heaviest_weight)


def best_amount(sizes, count):
    """Return the misplaced amount of the best list of that many positions."""
    return misplaced_amount(sizes, best_positions(sizes, count))
