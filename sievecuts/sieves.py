"""The interface: calls that are told in one list are executed, and their answers given back in one list."""

from sievecuts.operations import operate
from sievecuts.refusals import Refusal
from sievecuts.sifter import Sifter

CREATE = 0


def answers(calls):
    """Execute the calls in order on a new object; return, for each, how many numbers it answers, then these."""
    answered = []
    sifter = None
    for number, arguments in split_calls(calls):
        if number == CREATE:
            sifter = Sifter()
            result = [0]
        else:
            result = answer(sifter, number, arguments)
        answered.append(len(result))
        answered.extend(result)
    return answered


def split_calls(calls):
    """Return a tuple for each call: its number and the list of its whole numbers."""
    found = []
    start = 0
    while start < len(calls):
        first = start + 2
        behind = first + calls[start + 1]
        found.append((calls[start], calls[first:behind]))
        # Behind the whole numbers stands how many lists the call has: no call has one, so it is always 0.
        start = behind + 1
    return found


def answer(sifter, number, arguments):
    """Return what a call other than create answers; sifter is None as long as there is no sifter."""
    try:
        return operate(sifter, number, arguments)
    except Refusal as refusal:
        return [refusal.code]
