"""Exact fractions, each as a list of its numerator and its denominator."""


def greatest_common_divisor(first, second):
    """Give the greatest number that divides both; second is above 0."""
    larger = first
    smaller = second
    while smaller != 0:
        rest = larger % smaller
        larger = smaller
        smaller = rest
    return larger


def lowest_terms(num, den):
    """Give num / den in lowest terms; den is above 0."""
    divisor = greatest_common_divisor(num, den)
    return [num // divisor, den // divisor]


def power(base, exponent):
    """Give base to the exponent, which is not below 0."""
    product = 1
    for step in range(exponent):
        product *= base
    return product
