"""What the tests share.

First, calls by name, told to the program in its one list, and its answers call by call. Then a plain second telling
of the document, slow and apart from the program, to hold its answers against.
"""

from itertools import combinations
from math import gcd

from sievecuts.sieves import answers

NO_SIFTER = [-11]
NOT_THERE = [-2]
OUTSIDE_LIMITS = [-22]
TOO_MANY_SIZES = [-28]
NOTHING_THERE = [-6]
ALREADY_THERE = [-17]
NEVER_ENOUGH = [-33]

LARGEST = 4294967295
MOST_CALLS = 60


def told(calls):
    """The one list for calls that are tuples: the call's number, then its whole numbers."""
    numbers = []
    for call in calls:
        numbers += [call[0], len(call) - 1, *call[1:], 0]
    return numbers


def parted(answered):
    """The answers, one list for each call."""
    parts = []
    start = 0
    while start < len(answered):
        behind = start + 1 + answered[start]
        if answered[start] < 1 or behind > len(answered):
            raise AssertionError(f"no list of answers: {answered}")
        parts.append(answered[start + 1:behind])
        start = behind
    return parts


def ask(*calls):
    """What each of the calls of one request answers."""
    return parted(answers(told(calls)))


def ask_last(*calls):
    """What the last of the calls answers."""
    return ask(*calls)[-1]


def ask_each(before, calls):
    """What each of the calls, which must not change anything, answers behind those before it: in several requests."""
    room = MOST_CALLS - len(before)
    parts = []
    for start in range(0, len(calls), room):
        parts += ask(*before, *calls[start:start + room])[len(before):]
    return parts


def sifter(sizes, sieves=()):
    """The calls that make a sifter of these (flour, bran) and positions."""
    return [create(), *[add_size(flour, bran) for flour, bran in sizes], set_sieves(*sieves)]


def create():
    return (0,)


def add_size(flour, bran):
    return (1, flour, bran)


def remove_last_size():
    return (2,)


def set_size(size, flour, bran):
    return (3, size, flour, bran)


def get_sizes():
    return (4,)


def set_sieves(*positions):
    return (5, *positions)


def get_sieves():
    return (6,)


def get_classes():
    return (7,)


def misplaced():
    return (8,)


def purity():
    return (9,)


def best_sieves(count):
    return (10, count)


def apply_best_sieves(count):
    return (11, count)


def sieves_needed(limit):
    return (12, limit)


def lower_bound():
    return (13,)


def add_sieve(position):
    return (14, position)


def remove_sieve(position):
    return (15, position)


def gain_of_sieve(count):
    return (16, count)


def most_even_sieves(count):
    return (17, count)


def evaluate_sieves(*positions):
    return (18, *positions)


def destination(size):
    return (19, size)


def yields():
    return (20,)


def some_sizes(source, size_count, most):
    """That many (flour, bran) of at most this much."""
    return [(source.randint(0, most), source.randint(0, most)) for _ in range(size_count)]


def many_sizes(source, each):
    """For 1 to 10 sizes that many lists of every sort: any amounts, few different ones, hardly more than 0."""
    return [some_sizes(source, size_count, most) for size_count in range(1, 11) for most in (99, 5, 1)
            for _ in range(each)]


def plain_classes(sizes, sieves):
    """[number of sizes, flour, bran] of each class: a size is in the class of as many sieves as lie at or below it."""
    classes = [[0, 0, 0] for _ in range(len(sieves) + 1)]
    for size, (flour, bran) in enumerate(sizes):
        own = classes[sum(1 for position in sieves if position <= size)]
        own[0] += 1
        own[1] += flour
        own[2] += bran
    return classes


def plain_misplaced(sizes, sieves):
    """A class with at most as much bran as flour goes to flour: its bran is misplaced, else its flour."""
    return sum(bran if bran <= flour else flour for _, flour, bran in plain_classes(sizes, sieves))


def plain_heaviest(sizes, sieves):
    return max(flour + bran for _, flour, bran in plain_classes(sizes, sieves))


def all_position_lists(sizes, count):
    return [list(positions) for positions in combinations(range(1, len(sizes)), count)]


def all_lists_of_positions(sizes):
    """Those of every count."""
    return [positions for count in range(max(1, len(sizes))) for positions in all_position_lists(sizes, count)]


def plain_best(sizes, count):
    """(misplaced, positions): the smallest of all such tuples is the lowest amount, then the smallest list."""
    return min((plain_misplaced(sizes, positions), positions) for positions in all_position_lists(sizes, count))


def plain_most_even(sizes, count):
    """(heaviest weight, positions), as in plain_best."""
    return min((plain_heaviest(sizes, positions), positions) for positions in all_position_lists(sizes, count))


class PlainSifter:
    """One request, operation by operation, as tuples of a number and its whole numbers."""

    def __init__(self):
        self.sizes = None
        self.sieves = None

    def ask(self, number, *arguments):
        if number == 0:
            self.sizes, self.sieves = [], []
            return [0]
        if self.sizes is None:
            return [-11]
        names = ["", "add_size", "remove_last_size", "set_size", "get_sizes", "set_sieves", "get_sieves",
                 "get_classes", "misplaced", "purity", "best_sieves", "apply_best_sieves", "sieves_needed",
                 "lower_bound", "add_sieve", "remove_sieve", "gain_of_sieve", "most_even_sieves", "evaluate_sieves",
                 "destination", "yields"]
        return getattr(self, names[number])(*arguments)

    def add_size(self, flour, bran):
        if max(flour, bran) > 99:
            return [-22]
        if len(self.sizes) == 10:
            return [-28]
        self.sizes = self.sizes + [(flour, bran)]
        return [len(self.sizes) - 1]

    def remove_last_size(self):
        if not self.sizes:
            return [-6]
        self.sizes = self.sizes[:-1]
        self.sieves = [position for position in self.sieves if position < len(self.sizes)]
        return [len(self.sizes)]

    def set_size(self, size, flour, bran):
        if size >= len(self.sizes):
            return [-2]
        if max(flour, bran) > 99:
            return [-22]
        previous = self.sizes[size]
        self.sizes = self.sizes[:size] + [(flour, bran)] + self.sizes[size + 1:]
        return [0, *previous]

    def get_sizes(self):
        return [len(self.sizes)] + [amount for amounts in self.sizes for amount in amounts]

    def set_sieves(self, *positions):
        if list(positions) not in all_position_lists(self.sizes, len(positions)):
            return [-22]
        self.sieves = list(positions)
        return self.misplaced()

    def get_sieves(self):
        return [len(self.sieves), *self.sieves]

    def get_classes(self):
        classes = plain_classes(self.sizes, self.sieves)
        return [len(classes)] + [number for row in classes for number in row]

    def misplaced(self):
        return [plain_misplaced(self.sizes, self.sieves)]

    def purity(self):
        weight = sum(flour + bran for flour, bran in self.sizes)
        if weight == 0:
            return [-6]
        placed = weight - plain_misplaced(self.sizes, self.sieves)
        return [0, placed // gcd(placed, weight), weight // gcd(placed, weight)]

    def best_sieves(self, count):
        if count >= len(self.sizes):
            return [-22]
        amount, positions = plain_best(self.sizes, count)
        return [amount, *positions]

    def apply_best_sieves(self, count):
        answered = self.best_sieves(count)
        if answered != [-22]:
            self.sieves = answered[1:]
        return answered[:1]

    def sieves_needed(self, limit):
        for count in range(max(0, len(self.sizes) - 1) + 1):
            if plain_best(self.sizes, count)[0] <= limit:
                return [count]
        return [-33]

    def lower_bound(self):
        return [plain_misplaced(self.sizes, range(1, len(self.sizes)))]

    def add_sieve(self, position):
        if position not in range(1, len(self.sizes)):
            return [-22]
        if position in self.sieves:
            return [-17]
        return self.set_sieves(*sorted([*self.sieves, position]))

    def remove_sieve(self, position):
        if position not in self.sieves:
            return [-2]
        return self.set_sieves(*[other for other in self.sieves if other != position])

    def gain_of_sieve(self, count):
        if count not in range(1, len(self.sizes)):
            return [-22]
        return [plain_best(self.sizes, count - 1)[0] - plain_best(self.sizes, count)[0]]

    def most_even_sieves(self, count):
        if count >= len(self.sizes):
            return [-22]
        weight, positions = plain_most_even(self.sizes, count)
        return [weight, *positions]

    def evaluate_sieves(self, *positions):
        if list(positions) not in all_position_lists(self.sizes, len(positions)):
            return [-22]
        return [plain_misplaced(self.sizes, positions), plain_heaviest(self.sizes, positions)]

    def flour_classes(self):
        return [[flour, bran, bran <= flour] for _, flour, bran in plain_classes(self.sizes, self.sieves)]

    def destination(self, size):
        if size >= len(self.sizes):
            return [-2]
        sizes_of_classes = [row[0] for row in plain_classes(self.sizes, self.sieves)]
        of_each_size = [row[2] for row, number in zip(self.flour_classes(), sizes_of_classes) for _ in range(number)]
        return [1 if of_each_size[size] else 0]

    def yields(self):
        rows = self.flour_classes()
        return [sum(row[0] for row in rows if row[2]), sum(row[1] for row in rows if row[2]),
                sum(flour for flour, _ in self.sizes), sum(bran for _, bran in self.sizes)]
