"""How the tests write calls, and what the definitions give as exact fractions."""

from fractions import Fraction

from sessionsigns.model import answers

GREATEST = 4294967295
NO_MODEL = [-11]
UNKNOWN_SIGNAL = [-2]
OUTSIDE_LIMITS = [-22]
UNDEFINED = [-33]


def call(place, *numbers):
    return [place, len(numbers), *numbers, 0]


def create(signal_count):
    return call(0, signal_count)


def set_test_weights(*weights):
    return call(1, *weights)


def set_production_weights(*weights):
    return call(2, *weights)


def set_prior(num, den):
    return call(3, num, den)


def get_weights():
    return call(4)


def signal_probability(signal):
    return call(5, signal)


def posterior(signal):
    return call(6, signal)


def certainty(signal):
    return call(7, signal)


def total_variation():
    return call(8)


def best_accuracy():
    return call(9)


def best_guesses():
    return call(10)


def blind_accuracy():
    return call(11)


def merge_signals(*mapping):
    return call(12, *mapping)


def preview_merge(*mapping):
    return call(13, *mapping)


def sequence_total_variation(length):
    return call(14, length)


def sequence_accuracy(length):
    return call(15, length)


def sequence_posterior(*signals):
    return call(16, *signals)


def set_shares(mask):
    return call(17, mask)


def best_detector(num, den):
    return call(18, num, den)


def widest_gap_set():
    return call(19)


def accuracy_for_prior(num, den):
    return call(20, num, den)


def joined(calls):
    return [number for one in calls for number in one]


def parted(answered):
    """Part what is answered by the counts that stand ahead of each call's numbers."""
    parts = []
    start = 0
    while start < len(answered):
        end = start + 1 + answered[start]
        parts.append(answered[start + 1:end])
        start = end
    return parts


def ask(*calls):
    """Make the calls on one new object and give a list of numbers for each."""
    return parted(answers(joined(calls)))


def ask_last(*calls):
    return ask(*calls)[-1]


def model_calls(tests, productions, num, den):
    """The calls that make a model with these weights and this prior."""
    return [
        create(len(tests)),
        set_test_weights(*tests),
        set_production_weights(*productions),
        set_prior(num, den),
    ]


def ask_model(model, *calls):
    """What is answered of the calls on a model of the form (tests, productions, num, den)."""
    made = model_calls(*model)
    return ask(*made, *calls)[len(made):]


def fraction_answer(*values):
    """What is answered of these fractions behind a 0."""
    return [0] + [number for value in values for number in (value.numerator, value.denominator)]


def fraction_of(numbers):
    """The fraction that two answered numbers tell, after a look at their form."""
    if len(numbers) != 2:
        raise AssertionError(f"no fraction: {numbers}")
    value = Fraction(*numbers)
    if numbers != [value.numerator, value.denominator]:
        raise AssertionError(f"not in lowest terms: {numbers}")
    return value


def answered_fraction(answer):
    """The fraction of an answer that has a 0 ahead of it."""
    if answer[0] != 0:
        raise AssertionError(f"no 0 ahead: {answer}")
    return fraction_of(answer[1:])


# What is answered of these two tells the whole state of a model; the second leaves another prior.
STATE = [get_weights(), set_prior(0, 1)]


def state_answers(tests, productions, num, den):
    """What is answered of STATE when the state is this."""
    return [[len(tests), *tests, *productions], [0, num, den]]


def joint_probabilities(model):
    """joint_test and joint_production of every signal, as the document defines them."""
    tests, productions, num, den = model
    prior = Fraction(num, den)
    joint_tests = [prior * Fraction(weight, sum(tests)) for weight in tests]
    joint_productions = [(1 - prior) * Fraction(weight, sum(productions)) for weight in productions]
    return joint_tests, joint_productions


# Models of the form (tests, productions, num, den), with every edge of the limits among them.
MODELS = [
    ((1,), (1,), 1, 2),
    ((99,), (1,), 98, 99),
    ((3, 1), (1, 3), 1, 2),
    ((3, 1), (1, 3), 0, 7),
    ((3, 1), (1, 3), 7, 7),
    ((1, 0), (0, 1), 2, 6),
    ((0, 4), (0, 6), 1, 3),
    ((5, 0, 2), (0, 0, 3), 4, 10),
    ((0, 0, 99), (99, 0, 0), 1, 99),
    ((2, 4, 6), (1, 2, 3), 1, 2),
    ((1, 2, 3, 4), (4, 3, 2, 1), 50, 99),
    ((99, 98, 97, 96, 95), (1, 20, 30, 40, 99), 97, 98),
    ((0, 1, 0, 1, 0), (1, 0, 0, 0, 1), 3, 9),
    ((7, 0, 13, 0, 29), (0, 11, 17, 0, 23), 0, 99),
    ((7, 0, 13, 0, 29), (0, 11, 17, 0, 23), 99, 99),
    ((10, 20, 30, 40, 50), (10, 20, 30, 40, 50), 1, 2),
    ((99, 99, 99, 99, 99), (99, 99, 99, 99, 98), 44, 89),
]
