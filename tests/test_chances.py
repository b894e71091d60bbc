"""signal_probability, posterior, certainty, total_variation, best_accuracy and best_guesses."""

import unittest
from fractions import Fraction

from tests.calling import (
    GREATEST, MODELS, UNDEFINED, UNKNOWN_SIGNAL, ask, ask_model, best_accuracy, best_guesses, certainty, create,
    fraction_answer, get_weights, joint_probabilities, posterior, set_prior, set_production_weights, set_test_weights,
    signal_probability, total_variation,
)

# Signal 0 is seen in tests alone, 1 in both, 2 in production alone, 3 in neither.
MIXED = ((1, 1, 0, 0), (0, 1, 3, 0), 1, 3)
SIGNAL_CALLS = (signal_probability, posterior, certainty)


class UnknownSignals(unittest.TestCase):
    def test_a_signal_at_or_above_the_count(self):
        for count in range(1, 6):
            for signal in (count, count + 1, 8, 99, 4294967294, GREATEST):
                for asked in SIGNAL_CALLS:
                    with self.subTest(count=count, signal=signal, asked=asked.__name__):
                        self.assertEqual(ask(create(count), asked(signal)), [[0], UNKNOWN_SIGNAL])

    def test_the_last_signal_is_there(self):
        for count in range(1, 6):
            answered = ask(create(count), *[asked(count - 1) for asked in SIGNAL_CALLS])
            self.assertEqual(answered, [[0], [0, 1, count], [0, 1, 2], [0]])

    def test_the_signals_follow_the_newest_model(self):
        answered = ask(create(2), create(3), signal_probability(2), create(2), signal_probability(2))
        self.assertEqual(answered[2:], [[0, 1, 3], [0], UNKNOWN_SIGNAL])

    def test_an_unknown_signal_comes_ahead_of_an_undefined_posterior(self):
        model = ((1, 0), (1, 0), 1, 2)
        self.assertEqual(ask_model(model, posterior(1), posterior(2), certainty(1), certainty(2)),
                         [UNDEFINED, UNKNOWN_SIGNAL, UNDEFINED, UNKNOWN_SIGNAL])

    def test_a_refusal_changes_nothing(self):
        answered = ask_model(MIXED, posterior(3), certainty(3), posterior(4), certainty(4), signal_probability(4),
                             get_weights(), set_prior(1, 1))
        self.assertEqual(answered[5:], [[4, 1, 1, 0, 0, 0, 1, 3, 0], [0, 1, 3]])


class SignalProbability(unittest.TestCase):
    def test_every_signal_of_a_model(self):
        answered = ask_model(MIXED, *[signal_probability(signal) for signal in range(4)])
        self.assertEqual(answered, [[0, 1, 6], [0, 1, 3], [0, 1, 2], [0, 0, 1]])

    def test_one_signal_is_certain(self):
        self.assertEqual(ask_model(((7,), (9,), 2, 6), signal_probability(0)), [[0, 1, 1]])

    def test_prior_0_and_1_leave_one_kind(self):
        tests, productions = (3, 1), (0, 5)
        self.assertEqual(ask_model((tests, productions, 1, 1), signal_probability(0), signal_probability(1)),
                         [[0, 3, 4], [0, 1, 4]])
        self.assertEqual(ask_model((tests, productions, 0, 1), signal_probability(0), signal_probability(1)),
                         [[0, 0, 1], [0, 1, 1]])

    def test_as_defined(self):
        for model in MODELS:
            tests, productions = joint_probabilities(model)
            for signal in range(len(tests)):
                with self.subTest(model=model, signal=signal):
                    expected = fraction_answer(tests[signal] + productions[signal])
                    self.assertEqual(ask_model(model, signal_probability(signal)), [expected])


class Posterior(unittest.TestCase):
    def test_every_signal_of_a_model(self):
        answered = ask_model(MIXED, *[posterior(signal) for signal in range(4)])
        self.assertEqual(answered, [[0, 1, 1], [0, 1, 2], [0, 0, 1], UNDEFINED])

    def test_prior_0_and_1(self):
        tests, productions = (3, 0, 2), (0, 5, 2)
        asked = [posterior(signal) for signal in range(3)]
        self.assertEqual(ask_model((tests, productions, 0, 9), *asked), [UNDEFINED, [0, 0, 1], [0, 0, 1]])
        self.assertEqual(ask_model((tests, productions, 9, 9), *asked), [[0, 1, 1], UNDEFINED, [0, 1, 1]])

    def test_shares_count_and_not_weights(self):
        self.assertEqual(ask_model(((1, 1), (10, 30), 1, 2), posterior(0), posterior(1)), [[0, 2, 3], [0, 2, 5]])

    def test_it_follows_the_weights_and_the_prior(self):
        answered = ask(create(2), posterior(0), set_test_weights(3, 1), posterior(0), set_prior(1, 4), posterior(0),
                       set_production_weights(1, 3), posterior(0), set_prior(0, 1), posterior(0))
        self.assertEqual(answered[1::2], [[0, 1, 2], [0, 3, 5], [0, 1, 3], [0, 1, 2], [0, 0, 1]])

    def test_as_defined(self):
        for model in MODELS:
            tests, productions = joint_probabilities(model)
            for signal in range(len(tests)):
                with self.subTest(model=model, signal=signal):
                    whole = tests[signal] + productions[signal]
                    expected = fraction_answer(tests[signal] / whole) if whole else UNDEFINED
                    self.assertEqual(ask_model(model, posterior(signal)), [expected])


class Certainty(unittest.TestCase):
    def test_every_signal_of_a_model(self):
        self.assertEqual(ask_model(MIXED, *[certainty(signal) for signal in range(4)]), [[1], [0], [2], UNDEFINED])

    def test_prior_0_and_1(self):
        tests, productions = (3, 0, 2), (0, 5, 2)
        asked = [certainty(signal) for signal in range(3)]
        self.assertEqual(ask_model((tests, productions, 0, 1), *asked), [UNDEFINED, [2], [2]])
        self.assertEqual(ask_model((tests, productions, 1, 1), *asked), [[1], UNDEFINED, [1]])

    def test_as_defined(self):
        for model in MODELS:
            for signal, joint in enumerate(zip(*joint_probabilities(model))):
                with self.subTest(model=model, signal=signal):
                    expected = [0]
                    if joint == (0, 0):
                        expected = UNDEFINED
                    elif joint[0] == 0:
                        expected = [2]
                    elif joint[1] == 0:
                        expected = [1]
                    self.assertEqual(ask_model(model, certainty(signal)), [expected])


class TotalVariation(unittest.TestCase):
    def test_ordinary_models(self):
        for tests, productions, expected in (
                ((3, 1), (1, 3), [0, 1, 2]),
                ((1, 1, 0, 0), (0, 1, 3, 0), [0, 3, 4]),
                ((2, 4, 6), (1, 2, 4), [0, 1, 14]),
        ):
            with self.subTest(tests=tests, productions=productions):
                self.assertEqual(ask_model((tests, productions, 1, 3), total_variation()), [expected])

    def test_nothing_in_common_and_everything_in_common(self):
        self.assertEqual(ask_model(((1, 0), (0, 9), 1, 2), total_variation()), [[0, 1, 1]])
        self.assertEqual(ask_model(((2, 4), (1, 2), 1, 2), total_variation()), [[0, 0, 1]])
        self.assertEqual(ask_model(((5,), (7,), 1, 2), total_variation()), [[0, 0, 1]])

    def test_the_prior_does_not_count(self):
        for num, den in ((0, 1), (1, 1), (1, 99), (98, 99)):
            with self.subTest(num=num, den=den):
                self.assertEqual(ask_model(((3, 1), (1, 3), num, den), total_variation()), [[0, 1, 2]])

    def test_it_follows_the_weights(self):
        answered = ask(create(2), total_variation(), set_test_weights(1, 0), total_variation(),
                       set_production_weights(0, 1), total_variation(), create(2), total_variation())
        self.assertEqual(answered[1::2], [[0, 0, 1], [0, 1, 2], [0, 1, 1], [0, 0, 1]])

    def test_as_defined(self):
        for model in MODELS:
            tests, productions, num, den = model
            gaps = [abs(Fraction(tests[signal], sum(tests)) - Fraction(productions[signal], sum(productions)))
                    for signal in range(len(tests))]
            with self.subTest(model=model):
                self.assertEqual(ask_model(model, total_variation()), [fraction_answer(sum(gaps) / 2)])


class BestAccuracy(unittest.TestCase):
    def test_ordinary_models(self):
        self.assertEqual(ask_model(((3, 1), (1, 3), 1, 2), best_accuracy()), [[0, 3, 4]])
        self.assertEqual(ask_model(MIXED, best_accuracy()), [[0, 5, 6]])

    def test_prior_0_and_1_are_certain(self):
        for num in (0, 1):
            with self.subTest(num=num):
                self.assertEqual(ask_model(((3, 1), (1, 3), num, 1), best_accuracy()), [[0, 1, 1]])

    def test_one_signal_is_a_blind_guess(self):
        self.assertEqual(ask_model(((8,), (3,), 2, 6), best_accuracy()), [[0, 2, 3]])

    def test_it_follows_the_weights_and_the_prior(self):
        answered = ask(create(2), best_accuracy(), set_prior(1, 4), best_accuracy(), set_test_weights(1, 0),
                       best_accuracy(), set_production_weights(0, 1), best_accuracy())
        self.assertEqual(answered[1::2], [[0, 1, 2], [0, 3, 4], [0, 3, 4], [0, 1, 1]])

    def test_as_defined(self):
        for model in MODELS:
            with self.subTest(model=model):
                best = sum(max(joint) for joint in zip(*joint_probabilities(model)))
                self.assertEqual(ask_model(model, best_accuracy()), [fraction_answer(best)])


class BestGuesses(unittest.TestCase):
    def test_ties_and_signals_with_probability_0_give_1(self):
        self.assertEqual(ask_model(MIXED, best_guesses()), [[4, 1, 1, 0, 1]])
        self.assertEqual(ask(create(5), best_guesses())[1], [5, 1, 1, 1, 1, 1])
        self.assertEqual(ask_model(((2, 4), (1, 2), 1, 2), best_guesses()), [[2, 1, 1]])

    def test_just_beside_a_tie(self):
        self.assertEqual(ask_model(((1,), (1,), 49, 99), best_guesses()), [[1, 0]])
        self.assertEqual(ask_model(((1,), (1,), 50, 99), best_guesses()), [[1, 1]])
        self.assertEqual(ask_model(((98, 1), (99, 1), 1, 2), best_guesses()), [[2, 0, 1]])

    def test_prior_0_and_1(self):
        self.assertEqual(ask_model(((3, 0, 1, 0), (0, 3, 1, 0), 0, 1), best_guesses()), [[4, 1, 0, 0, 1]])
        self.assertEqual(ask_model(((3, 0, 1, 0), (0, 3, 1, 0), 1, 1), best_guesses()), [[4, 1, 1, 1, 1]])

    def test_as_defined(self):
        for model in MODELS:
            with self.subTest(model=model):
                guesses = [0 if test < production else 1 for test, production in zip(*joint_probabilities(model))]
                self.assertEqual(ask_model(model, best_guesses()), [[len(guesses)] + guesses])


class LowestTerms(unittest.TestCase):
    def test_fractions_are_reduced(self):
        answered = ask_model(((60, 20), (20, 60), 20, 40), signal_probability(0), posterior(0), total_variation(),
                             best_accuracy())
        self.assertEqual(answered, [[0, 1, 2], [0, 3, 4], [0, 1, 2], [0, 3, 4]])

    def test_zero_is_0_over_1(self):
        answered = ask_model(((5, 0, 5), (5, 0, 5), 0, 99), signal_probability(1), posterior(0), total_variation())
        self.assertEqual(answered, [[0, 0, 1]] * 3)

    def test_great_numbers_stay_exact(self):
        model = ((99, 98, 97, 96, 95), (89, 83, 79, 73, 71), 88, 97)
        # joint_test(4) = 88/97 * 95/485 and joint_production(4) = 9/97 * 71/395
        test = Fraction(88 * 95, 97 * 485)
        production = Fraction(9 * 71, 97 * 395)
        self.assertEqual(ask_model(model, signal_probability(4), posterior(4)),
                         [fraction_answer(test + production), fraction_answer(test / (test + production))])


if __name__ == "__main__":
    unittest.main()
