"""The classes into which sieves cut the sizes, and what follows from their amounts."""


def class_totals(sizes, positions):
    """Return a tuple for each class, from the finest: its number of sizes, its total flour, its total bran."""
    totals = []
    start = 0
    for end in positions + [len(sizes)]:
        part = sizes[start:end]
        flour = sum([amounts[0] for amounts in part])
        bran = sum([amounts[1] for amounts in part])
        totals.append((end - start, flour, bran))
        start = end
    return totals


def misplaced_amount(sizes, positions):
    """Return the misplaced amount that sieves at these positions have."""
    return sum([min(flour, bran) for size_count, flour, bran in class_totals(sizes, positions)])


def total_weight(sizes):
    """Return all flour and all bran of the sizes."""
    return sum([flour + bran for flour, bran in sizes])
