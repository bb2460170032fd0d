"""What a sifter holds."""


class Sifter:
    """Sizes, each a tuple of its flour and its bran, from the finest; positions of sieves, strictly increasing."""

    def __init__(self):
        self.sizes = []
        self.sieves = []
