"""The operations on a sifter.

Each one is handed the sifter and the whole numbers of its call, and returns the list of numbers that it answers.
It makes all its checks, in the document's order, ahead of its first change: so a refusal changes nothing.
"""

from sievecuts.classes import (
    class_amounts, class_number, class_totals, goes_to_flour, heaviest_weight, misplaced_amount, total_amounts,
)
from sievecuts.fraction import lowest_terms
from sievecuts.positions import are_positions, best_amount, best_positions, most_even_positions
from sievecuts.refusals import AlreadyThere, NeverEnough, NoSifter, NothingThere, NotThere, OutsideLimits, TooManySizes

MOST_SIZES = 10
MOST_AMOUNT = 99


def check_amounts(flour, bran):
    """Refuse amounts that no size may have."""
    if flour > MOST_AMOUNT or bran > MOST_AMOUNT:
        raise OutsideLimits()


def check_size(sifter, size):
    """Refuse the number of a size that doesn't exist."""
    if size >= len(sifter.sizes):
        raise NotThere()


def check_positions(sifter, positions):
    """Refuse what is no strictly increasing list of positions."""
    if not are_positions(positions, len(sifter.sizes)):
        raise OutsideLimits()


def check_count(sifter, count):
    """Refuse a number of sieves for which the sizes have too few positions."""
    if count >= len(sifter.sizes):
        raise OutsideLimits()


def add_size(sifter, arguments):
    """Add a new coarsest size."""
    flour = arguments[0]
    bran = arguments[1]
    check_amounts(flour, bran)
    if len(sifter.sizes) >= MOST_SIZES:
        raise TooManySizes()
    sifter.sizes.append((flour, bran))
    return [len(sifter.sizes) - 1]


def remove_last_size(sifter, arguments):
    """Remove the coarsest size, and the sieve at its position if there is one."""
    if len(sifter.sizes) == 0:
        raise NothingThere()
    sifter.sizes.pop()
    removed = len(sifter.sizes)
    sifter.sieves = [position for position in sifter.sieves if position != removed]
    return [len(sifter.sizes)]


def set_size(sifter, arguments):
    """Change the amounts of a size, and answer its previous ones."""
    size = arguments[0]
    flour = arguments[1]
    bran = arguments[2]
    check_size(sifter, size)
    check_amounts(flour, bran)
    previous = sifter.sizes[size]
    sifter.sizes[size] = (flour, bran)
    return [0, previous[0], previous[1]]


def get_sizes(sifter, arguments):
    """Answer the number of sizes, then the flour and the bran of each."""
    result = [len(sifter.sizes)]
    for amounts in sifter.sizes:
        result.extend(amounts)
    return result


def set_sieves(sifter, arguments):
    """Replace all sieves by those at the positions that are handed in."""
    check_positions(sifter, arguments)
    sifter.sieves = list(arguments)
    return misplaced(sifter, [])


def get_sieves(sifter, arguments):
    """Answer the number of sieves, then their positions."""
    return [len(sifter.sieves)] + sifter.sieves


def get_classes(sifter, arguments):
    """Answer the number of classes, then for each its number of sizes, its total flour and its total bran."""
    totals = class_totals(sifter.sizes, sifter.sieves)
    result = [len(totals)]
    for total in totals:
        result.extend(total)
    return result


def misplaced(sifter, arguments):
    """Answer the misplaced amount of the current sieves."""
    return [misplaced_amount(sifter.sizes, sifter.sieves)]


def purity(sifter, arguments):
    """Answer 0, then the part of the total weight that is not misplaced, as a fraction."""
    weight = sum(total_amounts(sifter.sizes))
    if weight == 0:
        raise NothingThere()
    amount = misplaced_amount(sifter.sizes, sifter.sieves)
    return [0] + lowest_terms(weight - amount, weight)


def best_sieves(sifter, arguments):
    """Answer the misplaced amount of the best sieves of the number handed in, then their positions."""
    count = arguments[0]
    check_count(sifter, count)
    positions = best_positions(sifter.sizes, count)
    return [misplaced_amount(sifter.sizes, positions)] + positions


def apply_best_sieves(sifter, arguments):
    """Replace all sieves by the best ones of the number handed in."""
    count = arguments[0]
    check_count(sifter, count)
    sifter.sieves = best_positions(sifter.sizes, count)
    return misplaced(sifter, [])


def sieves_needed(sifter, arguments):
    """Answer the smallest number of sieves of which the best misplace no more than the limit handed in."""
    limit = arguments[0]
    # No sizes have no positions either, but 0 sieves are a number to be tried all the same.
    for count in range(max(1, len(sifter.sizes))):
        if best_amount(sifter.sizes, count) <= limit:
            return [count]
    raise NeverEnough()


def lower_bound(sifter, arguments):
    """Answer the misplaced amount if every size is a class of its own."""
    return [sum([min(flour, bran) for flour, bran in sifter.sizes])]


def add_sieve(sifter, arguments):
    """Add a sieve at the position handed in."""
    position = arguments[0]
    check_positions(sifter, [position])
    if position in sifter.sieves:
        raise AlreadyThere()
    sifter.sieves = sorted(sifter.sieves + [position])
    return misplaced(sifter, [])


def remove_sieve(sifter, arguments):
    """Remove the sieve at the position handed in."""
    position = arguments[0]
    if position not in sifter.sieves:
        raise NotThere()
    sifter.sieves.remove(position)
    return misplaced(sifter, [])


def gain_of_sieve(sifter, arguments):
    """Answer how much less the best sieves of the number handed in misplace than the best ones of one fewer."""
    count = arguments[0]
    if count == 0:
        raise OutsideLimits()
    check_count(sifter, count)
    return [best_amount(sifter.sizes, count - 1) - best_amount(sifter.sizes, count)]


def most_even_sieves(sifter, arguments):
    """Answer the heaviest weight of the most even sieves of the number handed in, then their positions."""
    count = arguments[0]
    check_count(sifter, count)
    positions = most_even_positions(sifter.sizes, count)
    return [heaviest_weight(sifter.sizes, positions)] + positions


def evaluate_sieves(sifter, arguments):
    """Answer the misplaced amount and the heaviest weight that sieves at these positions would have."""
    check_positions(sifter, arguments)
    return [misplaced_amount(sifter.sizes, arguments), heaviest_weight(sifter.sizes, arguments)]


def destination(sifter, arguments):
    """Answer 1 if the class that contains the size goes to flour, otherwise 0."""
    size = arguments[0]
    check_size(sifter, size)
    amounts = class_amounts(sifter.sizes, sifter.sieves)
    own = amounts[class_number(sifter.sieves, size)]
    return [1 if goes_to_flour(own) else 0]


def yields(sifter, arguments):
    """Answer the flour and the bran of the classes that go to flour, then those of all sizes."""
    in_flour = [own for own in class_amounts(sifter.sizes, sifter.sieves) if goes_to_flour(own)]
    return list(total_amounts(in_flour) + total_amounts(sifter.sizes))


OPERATIONS = {
    1: add_size,
    2: remove_last_size,
    3: set_size,
    4: get_sizes,
    5: set_sieves,
    6: get_sieves,
    7: get_classes,
    8: misplaced,
    9: purity,
    10: best_sieves,
    11: apply_best_sieves,
    12: sieves_needed,
    13: lower_bound,
    14: add_sieve,
    15: remove_sieve,
    16: gain_of_sieve,
    17: most_even_sieves,
    18: evaluate_sieves,
    19: destination,
    20: yields,
}


def operate(sifter, number, arguments):
    """Execute the operation of this number on the sifter, None if there is none, and return what it answers."""
    # Ahead even of the look-up: without a sifter every operation fails in the same way.
    if sifter is None:
        raise NoSifter()
    operation = OPERATIONS[number]
    return operation(sifter, arguments)
