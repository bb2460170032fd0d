"""Many mixed requests, each answer held against the plain telling of the document."""

import unittest
from random import Random

from tests.helper import LARGEST, PlainSifter, ask


def some_call(source):
    """A call as a tuple, mostly one that is done, now and then one that is refused."""
    amount = source.choice([0, 1, 2, 5, 50, 98, 99])
    other = source.choice([0, 1, 2, 5, 50, 98, 99, 99, 100, LARGEST])
    number = source.choice([1, 1, 1, 1, 2, 3, 3, 4, 5, 5, 5, 6, 7, 8, 9, 10, 10])
    if number == 1:
        return (1, amount, other) if source.randrange(2) else (1, other, amount)
    if number == 3:
        return (3, source.randrange(11), amount, other)
    if number == 5:
        positions = sorted(source.sample(range(1, 11), source.randrange(5)))
        if source.randrange(8) == 0:
            positions += [source.randrange(11)]
        return (5, *positions)
    return (10, source.randrange(11)) if number == 10 else (number,)


class RandomRequests(unittest.TestCase):
    def test_every_answer_is_the_plain_one(self):
        source = Random(4)
        for _ in range(250):
            calls = [some_call(source) for _ in range(source.randint(1, 60))]
            calls[source.randrange(min(3, len(calls)))] = (0,)
            if source.randrange(4) == 0:
                calls[source.randrange(len(calls))] = (0,)
            plain = PlainSifter()
            self.assertEqual(ask(*calls), [plain.ask(*call) for call in calls], calls)


if __name__ == "__main__":
    unittest.main()
