"""The errors of the operations, one class for each error code."""


class Refusal(Exception):
    """An operation fails: its code is all that is answered."""

    def __init__(self, code):
        Exception.__init__(self)
        self.code = code


class NoSifter(Refusal):
    """There is no sifter."""

    def __init__(self):
        Refusal.__init__(self, -11)


class NotThere(Refusal):
    """The size or the sieve doesn't exist."""

    def __init__(self):
        Refusal.__init__(self, -2)


class OutsideLimits(Refusal):
    """An argument is outside its limits."""

    def __init__(self):
        Refusal.__init__(self, -22)


class TooManySizes(Refusal):
    """There are already as many sizes as there may be."""

    def __init__(self):
        Refusal.__init__(self, -28)


class NothingThere(Refusal):
    """There are no sizes, or there is no material."""

    def __init__(self):
        Refusal.__init__(self, -6)


class AlreadyThere(Refusal):
    """There is already a sieve at this position."""

    def __init__(self):
        Refusal.__init__(self, -17)


class NeverEnough(Refusal):
    """No number of sieves is enough."""

    def __init__(self):
        Refusal.__init__(self, -33)
