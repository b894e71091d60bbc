"""The calls: each takes the model and the call's numbers, and gives the numbers that are answered.

A call checks its numbers before it changes anything, so that a refused call
leaves the state as it was.
"""

from sessionsigns.chances import accuracy_fraction
from sessionsigns.chances import blind_fraction
from sessionsigns.chances import joint_production_parts
from sessionsigns.chances import joint_test_parts
from sessionsigns.chances import likelier_kinds
from sessionsigns.chances import posterior_fraction
from sessionsigns.chances import probability_fraction
from sessionsigns.chances import probability_part
from sessionsigns.chances import variation_fraction
from sessionsigns.errors import NoModel
from sessionsigns.errors import OutsideLimits
from sessionsigns.errors import UndefinedPosterior
from sessionsigns.errors import UnknownSignal
from sessionsigns.merging import merge
from sessionsigns.sequences import sequence_best_accuracy
from sessionsigns.sequences import sequence_posterior_fraction
from sessionsigns.sequences import sequence_probability_part
from sessionsigns.sequences import sequence_variation
from sessionsigns.signal_sets import detector_mask
from sessionsigns.signal_sets import set_count
from sessionsigns.signal_sets import set_gap_fraction
from sessionsigns.signal_sets import set_production_fraction
from sessionsigns.signal_sets import set_test_fraction
from sessionsigns.signal_sets import widest_mask
from sessionsigns.state import Model
from sessionsigns.state import copy_model

CREATE = 0
MOST_SIGNALS = 5
GREATEST_WEIGHT = 99
GREATEST_DEN = 99
GREATEST_LENGTH = 3
LONGEST_SEQUENCE = 6


def check_weights(model, weights):
    if len(weights) != model.signal_count:
        raise OutsideLimits()
    if max(weights) > GREATEST_WEIGHT or max(weights) == 0:
        raise OutsideLimits()


def check_fraction(num, den):
    if den < 1 or den > GREATEST_DEN or num > den:
        raise OutsideLimits()


def check_signal(model, signal):
    if signal >= model.signal_count:
        raise UnknownSignal()


def check_posterior(model, signal):
    check_signal(model, signal)
    if probability_part(model, signal) == 0:
        raise UndefinedPosterior()


def check_signals(model, signals):
    # In a list a signal that doesn't exist is an argument outside its limits.
    for signal in signals:
        if signal >= model.signal_count:
            raise OutsideLimits()


def check_mapping(model, mapping):
    if len(mapping) != model.signal_count:
        raise OutsideLimits()
    check_signals(model, mapping)


def check_length(length):
    if length > GREATEST_LENGTH:
        raise OutsideLimits()


def check_sequence(model, signals):
    if len(signals) > LONGEST_SEQUENCE:
        raise OutsideLimits()
    check_signals(model, signals)
    if sequence_probability_part(model, signals) == 0:
        raise UndefinedPosterior()


def check_set(model, mask):
    if mask >= set_count(model):
        raise OutsideLimits()


def create(instance, arguments):
    signal_count = arguments[0]
    if signal_count < 1 or signal_count > MOST_SIGNALS:
        raise OutsideLimits()
    instance.model = Model(signal_count)
    return [0]


def set_test_weights(model, arguments):
    check_weights(model, arguments)
    model.test_weights = list(arguments)
    return [sum(arguments)]


def set_production_weights(model, arguments):
    check_weights(model, arguments)
    model.production_weights = list(arguments)
    return [sum(arguments)]


def set_prior(model, arguments):
    num = arguments[0]
    den = arguments[1]
    check_fraction(num, den)
    answer = [0, model.prior_num, model.prior_den]
    model.prior_num = num
    model.prior_den = den
    return answer


def get_weights(model, arguments):
    return [model.signal_count] + model.test_weights + model.production_weights


def signal_probability(model, arguments):
    signal = arguments[0]
    check_signal(model, signal)
    return [0] + probability_fraction(model, signal)


def posterior(model, arguments):
    signal = arguments[0]
    check_posterior(model, signal)
    return [0] + posterior_fraction(model, signal)


def certainty(model, arguments):
    signal = arguments[0]
    check_posterior(model, signal)
    if joint_test_parts(model)[signal] == 0:
        return [2]
    if joint_production_parts(model)[signal] == 0:
        return [1]
    return [0]


def total_variation(model, arguments):
    return [0] + variation_fraction(model)


def best_accuracy(model, arguments):
    return [0] + accuracy_fraction(model)


def best_guesses(model, arguments):
    return [model.signal_count] + likelier_kinds(model)


def blind_accuracy(model, arguments):
    return [0] + blind_fraction(model)


def merge_signals(model, arguments):
    check_mapping(model, arguments)
    merge(model, arguments)
    return [0] + variation_fraction(model)


def preview_merge(model, arguments):
    check_mapping(model, arguments)
    merged = copy_model(model)
    merge(merged, arguments)
    return [0] + variation_fraction(merged) + accuracy_fraction(merged)


def sequence_total_variation(model, arguments):
    length = arguments[0]
    check_length(length)
    return [0] + sequence_variation(model, length)


def sequence_accuracy(model, arguments):
    length = arguments[0]
    check_length(length)
    return [0] + sequence_best_accuracy(model, length)


def sequence_posterior(model, arguments):
    check_sequence(model, arguments)
    return [0] + sequence_posterior_fraction(model, arguments)


def set_shares(model, arguments):
    mask = arguments[0]
    check_set(model, mask)
    return [0] + set_test_fraction(model, mask) + set_production_fraction(model, mask)


def best_detector(model, arguments):
    num = arguments[0]
    den = arguments[1]
    check_fraction(num, den)
    mask = detector_mask(model, num, den)
    return [mask] + set_test_fraction(model, mask)


def widest_gap_set(model, arguments):
    mask = widest_mask(model)
    return [mask] + set_gap_fraction(model, mask)


def accuracy_for_prior(model, arguments):
    num = arguments[0]
    den = arguments[1]
    check_fraction(num, den)
    changed = copy_model(model)
    changed.prior_num = num
    changed.prior_den = den
    return [0] + accuracy_fraction(changed)


MODEL_CALLS = {
    1: set_test_weights,
    2: set_production_weights,
    3: set_prior,
    4: get_weights,
    5: signal_probability,
    6: posterior,
    7: certainty,
    8: total_variation,
    9: best_accuracy,
    10: best_guesses,
    11: blind_accuracy,
    12: merge_signals,
    13: preview_merge,
    14: sequence_total_variation,
    15: sequence_accuracy,
    16: sequence_posterior,
    17: set_shares,
    18: best_detector,
    19: widest_gap_set,
    20: accuracy_for_prior,
}


def perform(instance, place, arguments):
    """Make the call with this number on the instance."""
    if place == CREATE:
        return create(instance, arguments)
    if instance.model is None:
        raise NoModel()
    return MODEL_CALLS[place](instance.model, arguments)
