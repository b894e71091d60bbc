"""sequence_total_variation, sequence_accuracy and sequence_posterior."""

import unittest
from fractions import Fraction
from itertools import product

from tests.calling import (
    GREATEST, MODELS, OUTSIDE_LIMITS, STATE, UNDEFINED, ask, ask_model, best_accuracy, blind_accuracy, create,
    fraction_answer, merge_signals, posterior, sequence_accuracy, sequence_posterior, sequence_total_variation,
    set_prior, set_test_weights, state_answers, total_variation,
)

# test shares 3/4, 1/4; production shares 1/4, 3/4
EXAMPLE = ((3, 1), (1, 3), 1, 2)
LENGTH_CALLS = (sequence_total_variation, sequence_accuracy)
LENGTHS_OUTSIDE = (4, 5, 6, 8, 99, 4294967294, GREATEST)


def multiplied(weights, signals):
    """The product of the shares of these signals."""
    share = Fraction(1)
    for signal in signals:
        share *= Fraction(weights[signal], sum(weights))
    return share


def sequence_shares(model, length):
    """The test probability and the production probability of every sequence of this length."""
    tests, productions = model[:2]
    return [(multiplied(tests, signals), multiplied(productions, signals))
            for signals in product(range(len(tests)), repeat=length)]


class Lengths(unittest.TestCase):
    def test_lengths_above_3(self):
        for asked in LENGTH_CALLS:
            for length in LENGTHS_OUTSIDE:
                with self.subTest(asked=asked.__name__, length=length):
                    answered = ask_model(((3, 1), (1, 4), 2, 6), asked(length), *STATE)
                    self.assertEqual(answered, [OUTSIDE_LIMITS, *state_answers((3, 1), (1, 4), 2, 6)])

    def test_nothing_is_changed(self):
        for length in range(4):
            with self.subTest(length=length):
                asked = [asked(length) for asked in LENGTH_CALLS]
                self.assertEqual(ask_model(((3, 1), (1, 4), 2, 6), *asked, *STATE)[2:],
                                 state_answers((3, 1), (1, 4), 2, 6))


class SequenceTotalVariation(unittest.TestCase):
    def test_every_length(self):
        answered = ask_model(EXAMPLE, *[sequence_total_variation(length) for length in range(4)])
        self.assertEqual(answered, [[0, 0, 1], [0, 1, 2], [0, 1, 2], [0, 11, 16]])

    def test_length_0_is_0(self):
        for model in MODELS:
            with self.subTest(model=model):
                self.assertEqual(ask_model(model, sequence_total_variation(0)), [[0, 0, 1]])

    def test_length_1_is_the_total_variation(self):
        for model in MODELS:
            with self.subTest(model=model):
                distance, told = ask_model(model, total_variation(), sequence_total_variation(1))
                self.assertEqual(told, distance)

    def test_nothing_in_common_and_everything_in_common(self):
        for length in (1, 2, 3):
            with self.subTest(length=length):
                asked = sequence_total_variation(length)
                self.assertEqual(ask_model(((1, 0), (0, 9), 1, 2), asked), [[0, 1, 1]])
                self.assertEqual(ask_model(((2, 4), (1, 2), 1, 2), asked), [[0, 0, 1]])
                self.assertEqual(ask_model(((5,), (7,), 1, 2), asked), [[0, 0, 1]])

    def test_the_prior_does_not_count(self):
        for num, den in ((0, 1), (1, 1), (1, 99)):
            with self.subTest(num=num, den=den):
                self.assertEqual(ask_model(((3, 1), (1, 3), num, den), sequence_total_variation(3)), [[0, 11, 16]])

    def test_as_defined(self):
        for model in MODELS:
            for length in range(4):
                with self.subTest(model=model, length=length):
                    gaps = [abs(test - production) for test, production in sequence_shares(model, length)]
                    self.assertEqual(ask_model(model, sequence_total_variation(length)),
                                     [fraction_answer(sum(gaps) / 2)])


class SequenceAccuracy(unittest.TestCase):
    def test_every_length(self):
        answered = ask_model(EXAMPLE, *[sequence_accuracy(length) for length in range(4)])
        self.assertEqual(answered, [[0, 1, 2], [0, 3, 4], [0, 3, 4], [0, 27, 32]])

    def test_another_prior(self):
        # length 2, prior 1/4: production is guessed but for the sequence 0, 0
        answered = ask_model(((3, 1), (1, 3), 1, 4), *[sequence_accuracy(length) for length in range(4)])
        self.assertEqual(answered, [[0, 3, 4], [0, 3, 4], [0, 27, 32], [0, 27, 32]])

    def test_length_0_is_the_blind_accuracy(self):
        for model in MODELS:
            with self.subTest(model=model):
                blind, told = ask_model(model, blind_accuracy(), sequence_accuracy(0))
                self.assertEqual(told, blind)

    def test_length_1_is_the_best_accuracy(self):
        for model in MODELS:
            with self.subTest(model=model):
                best, told = ask_model(model, best_accuracy(), sequence_accuracy(1))
                self.assertEqual(told, best)

    def test_prior_0_and_1_are_certain(self):
        for num in (0, 1):
            for length in range(4):
                with self.subTest(num=num, length=length):
                    self.assertEqual(ask_model(((3, 1), (1, 3), num, 1), sequence_accuracy(length)), [[0, 1, 1]])

    def test_as_defined(self):
        for model in MODELS:
            prior = Fraction(model[2], model[3])
            for length in range(4):
                with self.subTest(model=model, length=length):
                    best = sum(max(prior * test, (1 - prior) * production)
                               for test, production in sequence_shares(model, length))
                    self.assertEqual(ask_model(model, sequence_accuracy(length)), [fraction_answer(best)])


class SequencePosterior(unittest.TestCase):
    def test_some_sequences(self):
        answered = ask_model(EXAMPLE, sequence_posterior(0), sequence_posterior(0, 0), sequence_posterior(0, 1),
                             sequence_posterior(1, 0, 1), sequence_posterior(0, 0, 0, 0, 0, 0))
        self.assertEqual(answered, [[0, 3, 4], [0, 9, 10], [0, 1, 2], [0, 1, 4], [0, 729, 730]])

    def test_the_empty_sequence_gives_the_prior(self):
        for num, den in ((1, 2), (2, 6), (0, 1), (0, 99), (1, 1), (99, 99), (98, 99)):
            with self.subTest(num=num, den=den):
                self.assertEqual(ask_model(((1, 0), (0, 1), num, den), sequence_posterior()),
                                 [fraction_answer(Fraction(num, den))])

    def test_one_signal_gives_its_posterior(self):
        for model in MODELS:
            for signal in range(len(model[0])):
                with self.subTest(model=model, signal=signal):
                    one, told = ask_model(model, posterior(signal), sequence_posterior(signal))
                    self.assertEqual(told, one)

    def test_the_order_does_not_count(self):
        model = ((3, 1, 2), (1, 3, 5), 1, 3)
        answered = ask_model(model, sequence_posterior(0, 1, 2, 2), sequence_posterior(2, 1, 2, 0))
        self.assertEqual(answered[0], answered[1])

    def test_up_to_6_signals(self):
        for given in range(9):
            with self.subTest(given=given):
                expected = [0, 1, 2] if given <= 6 else OUTSIDE_LIMITS
                self.assertEqual(ask(create(1), sequence_posterior(*[0] * given)), [[0], expected])

    def test_a_signal_that_does_not_exist(self):
        for count in range(1, 6):
            for given in range(1, 7):
                for where in range(given):
                    for signal in (count, count + 1, GREATEST):
                        signals = [0] * given
                        signals[where] = signal
                        with self.subTest(count=count, signals=signals):
                            self.assertEqual(ask(create(count), sequence_posterior(*signals)), [[0], OUTSIDE_LIMITS])

    def test_a_sequence_with_probability_0(self):
        # Signal 0 is seen in tests alone, 1 in production alone, 2 in both, 3 in neither.
        model = ((1, 0, 1, 0), (0, 1, 1, 0), 1, 3)
        answered = ask_model(model, sequence_posterior(0, 1), sequence_posterior(3), sequence_posterior(2, 2, 3),
                             sequence_posterior(0, 2, 1, 2, 2, 2), sequence_posterior(0, 0, 2),
                             sequence_posterior(2, 1), sequence_posterior(2, 2))
        self.assertEqual(answered, [UNDEFINED] * 4 + [[0, 1, 1], [0, 0, 1], [0, 1, 3]])

    def test_prior_0_and_1(self):
        tests, productions = (3, 0, 2), (0, 5, 2)
        asked = [sequence_posterior(*signals) for signals in ((), (0,), (1,), (2, 2), (0, 2), (1, 2), (0, 1))]
        self.assertEqual(ask_model((tests, productions, 0, 9), *asked),
                         [[0, 0, 1], UNDEFINED, [0, 0, 1], [0, 0, 1], UNDEFINED, [0, 0, 1], UNDEFINED])
        self.assertEqual(ask_model((tests, productions, 9, 9), *asked),
                         [[0, 1, 1], [0, 1, 1], UNDEFINED, [0, 1, 1], [0, 1, 1], UNDEFINED, UNDEFINED])

    def test_an_argument_outside_its_limits_comes_ahead_of_an_undefined_posterior(self):
        model = ((1, 0), (1, 0), 1, 2)
        answered = ask_model(model, sequence_posterior(1), sequence_posterior(1, 2), sequence_posterior(2, 1),
                             sequence_posterior(*[1] * 6), sequence_posterior(*[1] * 7), sequence_posterior(*[1] * 8))
        self.assertEqual(answered, [UNDEFINED, OUTSIDE_LIMITS, OUTSIDE_LIMITS, UNDEFINED, OUTSIDE_LIMITS,
                                    OUTSIDE_LIMITS])

    def test_refused_or_not_nothing_is_changed(self):
        model = ((3, 0), (1, 0), 2, 6)
        answered = ask_model(model, sequence_posterior(1), sequence_posterior(2), sequence_posterior(*[0] * 7),
                             sequence_posterior(0, 0), *STATE)
        self.assertEqual(answered[4:], state_answers(*model))

    def test_it_follows_the_state(self):
        answered = ask(create(2), sequence_posterior(0, 0), set_test_weights(3, 1), sequence_posterior(0, 0),
                       set_prior(1, 4), sequence_posterior(0, 0), merge_signals(1, 1), sequence_posterior(0, 0),
                       sequence_posterior(1, 1))
        self.assertEqual(answered[1::2], [[0, 1, 2], [0, 9, 13], [0, 3, 7], UNDEFINED])
        self.assertEqual(answered[8], [0, 1, 4])

    def test_as_defined(self):
        for model in MODELS:
            tests, productions, num, den = model
            for signals in list(product(range(len(tests)), repeat=3)) + [(len(tests) - 1,) * 6, (0,) * 5]:
                with self.subTest(model=model, signals=signals):
                    test = Fraction(num, den) * multiplied(tests, signals)
                    production = (1 - Fraction(num, den)) * multiplied(productions, signals)
                    whole = test + production
                    expected = fraction_answer(test / whole) if whole else UNDEFINED
                    self.assertEqual(ask_model(model, sequence_posterior(*signals)), [expected])


if __name__ == "__main__":
    unittest.main()
