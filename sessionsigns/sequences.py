"""The probabilities of signal sequences, whose signals are drawn independently.

As in chances, they are kept as whole numerators over one denominator for all
sequences of the same length: share_whole to the length.
"""

from sessionsigns.chances import greater_sum
from sessionsigns.chances import half_difference
from sessionsigns.chances import production_share_parts
from sessionsigns.chances import share_whole
from sessionsigns.chances import test_share_parts
from sessionsigns.ratios import lowest_terms
from sessionsigns.ratios import power


def sequence_products(parts, length):
    """Give, for every sequence of this length, the product of its signals' parts."""
    products = [1]
    for step in range(length):
        longer = []
        for product in products:
            longer.extend([product * part for part in parts])
        products = longer
    return products


def sequence_product(parts, signals):
    """Give the product of the parts of these signals."""
    product = 1
    for signal in signals:
        product *= parts[signal]
    return product


def sequence_variation(model, length):
    """Give the total variation distance of the sequences of this length."""
    tests = sequence_products(test_share_parts(model), length)
    productions = sequence_products(production_share_parts(model), length)
    return half_difference(tests, productions, power(share_whole(model), length))


def sequence_best_accuracy(model, length):
    """Give the best accuracy when a whole sequence of this length is seen."""
    test_factor = model.prior_num
    production_factor = model.prior_den - model.prior_num
    tests = sequence_products(test_share_parts(model), length)
    productions = sequence_products(production_share_parts(model), length)
    return greater_sum(
        [test_factor * product for product in tests],
        [production_factor * product for product in productions],
        model.prior_den * power(share_whole(model), length),
    )


def sequence_test_part(model, signals):
    """Give the joint probability of the sequence and a test."""
    return model.prior_num * sequence_product(test_share_parts(model), signals)


def sequence_production_part(model, signals):
    """Give the joint probability of the sequence and production."""
    return (model.prior_den - model.prior_num) * sequence_product(production_share_parts(model), signals)


def sequence_probability_part(model, signals):
    """Give the probability of the sequence."""
    return sequence_test_part(model, signals) + sequence_production_part(model, signals)


def sequence_posterior_fraction(model, signals):
    """Give the posterior of a sequence whose probability is not 0."""
    return lowest_terms(sequence_test_part(model, signals), sequence_probability_part(model, signals))
