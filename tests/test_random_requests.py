"""Many mixed requests, each answer held against the plain telling of the document."""

import unittest
from random import Random

from tests.helper import LARGEST, MOST_CALLS, PlainSifter, ask, sifter, some_sizes


def some_call(source):
    """A call as a tuple, mostly one that is done, now and then one that is refused."""
    amount = source.choice([0, 1, 2, 5, 50, 98, 99])
    other = source.choice([0, 1, 2, 5, 50, 98, 99, 99, 100, LARGEST])
    number = source.choice([1] * 8 + [2, 3, 3, 4, 5, 5, 6, 7, 8, 9, *range(10, 18), 14, 14, 15, 18, 18, 19, 19, 20])
    if number == 1:
        return (1, amount, other) if source.randrange(2) else (1, other, amount)
    if number == 3:
        return (3, source.randrange(11), amount, other)
    if number in (5, 18):
        positions = sorted(source.sample(range(1, 11), source.randrange(5)))
        if source.randrange(8) == 0:
            positions += [source.randrange(11)]
        return (number, *positions)
    if number == 12:
        return (number, source.choice([source.randrange(8), source.randrange(400), LARGEST]))
    if number in (10, 11, 14, 15, 16, 17, 19):
        return (number, LARGEST if source.randrange(20) == 0 else source.randrange(11))
    return (number,)


class RandomRequests(unittest.TestCase):
    def test_every_answer_is_the_plain_one(self):
        source = Random(4)
        for _ in range(250):
            calls = [some_call(source) for _ in range(source.randint(1, MOST_CALLS))]
            calls[source.randrange(min(3, len(calls)))] = (0,)
            if source.randrange(4) == 0:
                calls[source.randrange(len(calls))] = (0,)
            if source.randrange(3):
                sizes = some_sizes(source, source.randint(1, 10), source.choice([3, 99]))
                calls = [*sifter(sizes), *calls[3:]][:MOST_CALLS]
            plain = PlainSifter()
            self.assertEqual(ask(*calls), [plain.ask(*call) for call in calls], calls)


if __name__ == "__main__":
    unittest.main()
