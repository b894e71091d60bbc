"""The probabilities of a model.

Shares and joint probabilities are kept as parts: whole numerators over one
denominator for all signals, so that they can be added and compared exactly.
"""

from sessionsigns.ratios import lowest_terms


def test_share_parts(model):
    """Give test_share of every signal, over share_whole."""
    factor = sum(model.production_weights)
    return [weight * factor for weight in model.test_weights]


def production_share_parts(model):
    """Give production_share of every signal, over share_whole."""
    factor = sum(model.test_weights)
    return [weight * factor for weight in model.production_weights]


def share_whole(model):
    """Give the denominator of the share parts."""
    return sum(model.test_weights) * sum(model.production_weights)


def joint_test_parts(model):
    """Give joint_test of every signal, over joint_whole."""
    return [model.prior_num * part for part in test_share_parts(model)]


def joint_production_parts(model):
    """Give joint_production of every signal, over joint_whole."""
    factor = model.prior_den - model.prior_num
    return [factor * part for part in production_share_parts(model)]


def joint_whole(model):
    """Give the denominator of the joint parts."""
    return model.prior_den * share_whole(model)


def probability_part(model, signal):
    """Give probability(signal), over joint_whole."""
    return joint_test_parts(model)[signal] + joint_production_parts(model)[signal]


def probability_fraction(model, signal):
    """Give probability(signal)."""
    return lowest_terms(probability_part(model, signal), joint_whole(model))


def posterior_fraction(model, signal):
    """Give posterior(signal), of a signal whose probability is not 0."""
    return lowest_terms(joint_test_parts(model)[signal], probability_part(model, signal))


def half_difference(test_parts, production_parts, whole):
    """Give half the sum of the differences between the parts, which are over whole."""
    total = 0
    for test_part, production_part in zip(test_parts, production_parts):
        total += abs(test_part - production_part)
    return lowest_terms(total, 2 * whole)


def greater_sum(test_parts, production_parts, whole):
    """Give the sum of the greater one of each two parts, which are over whole."""
    total = 0
    for test_part, production_part in zip(test_parts, production_parts):
        total += max(test_part, production_part)
    return lowest_terms(total, whole)


def variation_fraction(model):
    """Give the total variation distance."""
    return half_difference(test_share_parts(model), production_share_parts(model), share_whole(model))


def accuracy_fraction(model):
    """Give the best accuracy."""
    return greater_sum(joint_test_parts(model), joint_production_parts(model), joint_whole(model))


def blind_fraction(model):
    """Give the blind accuracy."""
    return lowest_terms(max(model.prior_num, model.prior_den - model.prior_num), model.prior_den)


def likelier_kinds(model):
    """Give 0 for every signal that is likelier in production, 1 for every other."""
    kinds = []
    for test_part, production_part in zip(joint_test_parts(model), joint_production_parts(model)):
        kinds.append(0 if test_part < production_part else 1)
    return kinds
