"""The classes into which sieves cut the sizes, and what follows from their amounts."""


def total_amounts(parts):
    """Return a tuple: the total flour and the total bran of parts that are tuples of their flour and their bran."""
    return (sum([flour for flour, bran in parts]), sum([bran for flour, bran in parts]))


def class_totals(sizes, positions):
    """Return a tuple for each class, from the finest: its number of sizes, its total flour, its total bran."""
    totals = []
    start = 0
    for end in positions + [len(sizes)]:
        totals.append((end - start,) + total_amounts(sizes[start:end]))
        start = end
    return totals


def class_amounts(sizes, positions):
    """Return a tuple for each class, from the finest: its total flour and its total bran."""
    return [(flour, bran) for size_count, flour, bran in class_totals(sizes, positions)]


def class_number(positions, size):
    """Return which class contains the size; the finest class is number 0."""
    return len([position for position in positions if position <= size])


def goes_to_flour(amounts):
    """Tell whether a class with this flour and bran goes to flour; as much of one as of the other does, too."""
    return amounts[1] <= amounts[0]


def misplaced_amount(sizes, positions):
    """Return the misplaced amount that sieves at these positions have."""
    return sum([min(flour, bran) for flour, bran in class_amounts(sizes, positions)])


def heaviest_weight(sizes, positions):
    """Return the largest weight of a class that sieves at these positions make."""
    return max([flour + bran for flour, bran in class_amounts(sizes, positions)])
