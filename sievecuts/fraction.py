"""Fractions of whole numbers."""


def greatest_divisor(first, second):
    """Return the greatest whole number that divides both."""
    while second > 0:
        remainder = first % second
        first = second
        second = remainder
    return first


def lowest_terms(numerator, denominator):
    """Return the fraction's numerator and denominator in lowest terms; the denominator must be above 0."""
    divisor = greatest_divisor(numerator, denominator)
    return [numerator // divisor, denominator // divisor]
