"""What the tests share.

First, calls by name, told to the program in its one list, and its answers call by call. Then a plain second telling
of the document, slow and apart from the program, to hold its answers against.
"""

from itertools import combinations
from math import gcd

from sievecuts.sieves import answers

NO_SIFTER = [-11]
NOT_THERE = [-2]
OUTSIDE_LIMITS = [-22]
TOO_MANY_SIZES = [-28]
NOTHING_THERE = [-6]

LARGEST = 4294967295


def told(calls):
    """The one list for calls that are tuples: the call's number, then its whole numbers."""
    numbers = []
    for call in calls:
        numbers += [call[0], len(call) - 1, *call[1:], 0]
    return numbers


def parted(answered):
    """The answers, one list for each call."""
    parts = []
    start = 0
    while start < len(answered):
        behind = start + 1 + answered[start]
        if answered[start] < 1 or behind > len(answered):
            raise AssertionError(f"no list of answers: {answered}")
        parts.append(answered[start + 1:behind])
        start = behind
    return parts


def ask(*calls):
    """What each of the calls of one request answers."""
    return parted(answers(told(calls)))


def ask_last(*calls):
    """What the last of the calls answers."""
    return ask(*calls)[-1]


def sifter(sizes, sieves=()):
    """The calls that make a sifter of these (flour, bran) and positions."""
    return [create(), *[add_size(flour, bran) for flour, bran in sizes], set_sieves(*sieves)]


def create():
    return (0,)


def add_size(flour, bran):
    return (1, flour, bran)


def remove_last_size():
    return (2,)


def set_size(size, flour, bran):
    return (3, size, flour, bran)


def get_sizes():
    return (4,)


def set_sieves(*positions):
    return (5, *positions)


def get_sieves():
    return (6,)


def get_classes():
    return (7,)


def misplaced():
    return (8,)


def purity():
    return (9,)


def best_sieves(count):
    return (10, count)


def plain_classes(sizes, sieves):
    """[number of sizes, flour, bran] of each class: a size is in the class of as many sieves as lie at or below it."""
    classes = [[0, 0, 0] for _ in range(len(sieves) + 1)]
    for size, (flour, bran) in enumerate(sizes):
        own = classes[sum(1 for position in sieves if position <= size)]
        own[0] += 1
        own[1] += flour
        own[2] += bran
    return classes


def plain_misplaced(sizes, sieves):
    """A class with at most as much bran as flour goes to flour: its bran is misplaced, else its flour."""
    return sum(bran if bran <= flour else flour for _, flour, bran in plain_classes(sizes, sieves))


def all_position_lists(sizes, count):
    return [list(positions) for positions in combinations(range(1, len(sizes)), count)]


def plain_best(sizes, count):
    """(misplaced, positions): the smallest of all such tuples is the lowest amount, then the smallest list."""
    return min((plain_misplaced(sizes, positions), positions) for positions in all_position_lists(sizes, count))


class PlainSifter:
    """One request, operation by operation, as tuples of a number and its whole numbers."""

    def __init__(self):
        self.sizes = None
        self.sieves = None

    def ask(self, number, *arguments):
        if number == 0:
            self.sizes, self.sieves = [], []
            return [0]
        if self.sizes is None:
            return [-11]
        names = ["", "add_size", "remove_last_size", "set_size", "get_sizes", "set_sieves", "get_sieves",
                 "get_classes", "misplaced", "purity", "best_sieves"]
        return getattr(self, names[number])(*arguments)

    def add_size(self, flour, bran):
        if max(flour, bran) > 99:
            return [-22]
        if len(self.sizes) == 10:
            return [-28]
        self.sizes = self.sizes + [(flour, bran)]
        return [len(self.sizes) - 1]

    def remove_last_size(self):
        if not self.sizes:
            return [-6]
        self.sizes = self.sizes[:-1]
        self.sieves = [position for position in self.sieves if position < len(self.sizes)]
        return [len(self.sizes)]

    def set_size(self, size, flour, bran):
        if size >= len(self.sizes):
            return [-2]
        if max(flour, bran) > 99:
            return [-22]
        previous = self.sizes[size]
        self.sizes = self.sizes[:size] + [(flour, bran)] + self.sizes[size + 1:]
        return [0, *previous]

    def get_sizes(self):
        return [len(self.sizes)] + [amount for amounts in self.sizes for amount in amounts]

    def set_sieves(self, *positions):
        if list(positions) not in all_position_lists(self.sizes, len(positions)):
            return [-22]
        self.sieves = list(positions)
        return self.misplaced()

    def get_sieves(self):
        return [len(self.sieves), *self.sieves]

    def get_classes(self):
        classes = plain_classes(self.sizes, self.sieves)
        return [len(classes)] + [number for row in classes for number in row]

    def misplaced(self):
        return [plain_misplaced(self.sizes, self.sieves)]

    def purity(self):
        weight = sum(flour + bran for flour, bran in self.sizes)
        if weight == 0:
            return [-6]
        placed = weight - plain_misplaced(self.sizes, self.sieves)
        return [0, placed // gcd(placed, weight), weight // gcd(placed, weight)]

    def best_sieves(self, count):
        if count >= len(self.sizes):
            return [-22]
        amount, positions = plain_best(self.sizes, count)
        return [amount, *positions]
