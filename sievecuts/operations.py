"""The operations on a sifter.

Each one is handed the sifter and the whole numbers of its call, and returns the list of numbers that it answers.
It makes all its checks, in the document's order, ahead of its first change: so a refusal changes nothing.
"""

from sievecuts.classes import class_totals, misplaced_amount, total_weight
from sievecuts.fraction import lowest_terms
from sievecuts.positions import are_positions, best_positions
from sievecuts.refusals import NoSifter, NothingThere, NotThere, OutsideLimits, TooManySizes

MOST_SIZES = 10
MOST_AMOUNT = 99


def check_amounts(flour, bran):
    """Refuse amounts that no size may have."""
    if flour > MOST_AMOUNT or bran > MOST_AMOUNT:
        raise OutsideLimits()


def check_count(sifter, count):
    """Refuse a number of sieves for which the sizes have too few positions."""
    if count >= len(sifter.sizes):
        raise OutsideLimits()


def add_size(sifter, arguments):
    """Add a new coarsest size."""
    flour = arguments[0]
    bran = arguments[1]
    check_amounts(flour, bran)
    if len(sifter.sizes) >= MOST_SIZES:
        raise TooManySizes()
    sifter.sizes.append((flour, bran))
    return [len(sifter.sizes) - 1]


def remove_last_size(sifter, arguments):
    """Remove the coarsest size, and the sieve at its position if there is one."""
    if len(sifter.sizes) == 0:
        raise NothingThere()
    sifter.sizes.pop()
    removed = len(sifter.sizes)
    sifter.sieves = [position for position in sifter.sieves if position != removed]
    return [len(sifter.sizes)]


def set_size(sifter, arguments):
    """Change the amounts of a size, and answer its previous ones."""
    size = arguments[0]
    flour = arguments[1]
    bran = arguments[2]
    if size >= len(sifter.sizes):
        raise NotThere()
    check_amounts(flour, bran)
    previous = sifter.sizes[size]
    sifter.sizes[size] = (flour, bran)
    return [0, previous[0], previous[1]]


def get_sizes(sifter, arguments):
    """Answer the number of sizes, then the flour and the bran of each."""
    result = [len(sifter.sizes)]
    for amounts in sifter.sizes:
        result.extend(amounts)
    return result


def set_sieves(sifter, arguments):
    """Replace all sieves by those at the positions that are handed in."""
    if not are_positions(arguments, len(sifter.sizes)):
        raise OutsideLimits()
    sifter.sieves = list(arguments)
    return misplaced(sifter, [])


def get_sieves(sifter, arguments):
    """Answer the number of sieves, then their positions."""
    return [len(sifter.sieves)] + sifter.sieves


def get_classes(sifter, arguments):
    """Answer the number of classes, then for each its number of sizes, its total flour and its total bran."""
    totals = class_totals(sifter.sizes, sifter.sieves)
    result = [len(totals)]
    for total in totals:
        result.extend(total)
    return result


def misplaced(sifter, arguments):
    """Answer the misplaced amount of the current sieves."""
    return [misplaced_amount(sifter.sizes, sifter.sieves)]


def purity(sifter, arguments):
    """Answer 0, then the part of the total weight that is not misplaced, as a fraction."""
    weight = total_weight(sifter.sizes)
    if weight == 0:
        raise NothingThere()
    amount = misplaced_amount(sifter.sizes, sifter.sieves)
    return [0] + lowest_terms(weight - amount, weight)


def best_sieves(sifter, arguments):
    """Answer the misplaced amount of the best sieves of the number handed in, then their positions."""
    count = arguments[0]
    check_count(sifter, count)
    positions = best_positions(sifter.sizes, count)
    return [misplaced_amount(sifter.sizes, positions)] + positions


OPERATIONS = {
    1: add_size,
    2: remove_last_size,
    3: set_size,
    4: get_sizes,
    5: set_sieves,
    6: get_sieves,
    7: get_classes,
    8: misplaced,
    9: purity,
    10: best_sieves,
}


def operate(sifter, number, arguments):
    """Execute the operation of this number on the sifter, None if there is none, and return what it answers."""
    # Ahead even of the look-up: without a sifter every operation fails in the same way.
    if sifter is None:
        raise NoSifter()
    operation = OPERATIONS[number]
    return operation(sifter, arguments)
