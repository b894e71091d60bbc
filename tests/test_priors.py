"""blind_accuracy and accuracy_for_prior."""

import unittest
from fractions import Fraction

from tests.calling import (
    GREATEST, MODELS, OUTSIDE_LIMITS, STATE, accuracy_for_prior, ask, ask_model, best_accuracy, blind_accuracy, create,
    fraction_answer, joint_probabilities, merge_signals, set_prior, state_answers,
)

THREE = ((3, 2, 1), (1, 3, 6), 2, 6)
PRIORS = ((0, 1), (1, 1), (99, 99), (0, 99), (1, 99), (98, 99), (1, 2), (49, 98), (2, 6), (2, 3))
PRIORS_OUTSIDE = ((0, 0), (1, 0), (0, 100), (1, 100), (100, 100), (2, 1), (3, 2), (100, 99), (99, 98), (GREATEST, 99),
                  (0, GREATEST), (1, GREATEST), (GREATEST, GREATEST), (GREATEST, 0), (GREATEST, 1))


class BlindAccuracy(unittest.TestCase):
    def test_the_likelier_kind_is_guessed(self):
        for num, den, expected in ((1, 3, [0, 2, 3]), (2, 3, [0, 2, 3]), (1, 2, [0, 1, 2]), (49, 99, [0, 50, 99]),
                                   (50, 99, [0, 50, 99]), (0, 1, [0, 1, 1]), (0, 99, [0, 1, 1]), (1, 1, [0, 1, 1]),
                                   (99, 99, [0, 1, 1]), (1, 99, [0, 98, 99])):
            with self.subTest(num=num, den=den):
                self.assertEqual(ask(create(2), set_prior(num, den), blind_accuracy())[2], expected)

    def test_it_is_told_in_lowest_terms(self):
        self.assertEqual(ask(create(1), set_prior(2, 6), blind_accuracy())[2], [0, 2, 3])
        self.assertEqual(ask(create(1), set_prior(49, 98), blind_accuracy())[2], [0, 1, 2])

    def test_a_new_model(self):
        self.assertEqual(ask(create(3), blind_accuracy()), [[0], [0, 1, 2]])

    def test_the_weights_do_not_count_and_nothing_is_changed(self):
        for tests, productions in (((1, 0), (0, 1)), ((99, 1), (1, 99)), ((1, 1), (1, 1))):
            with self.subTest(tests=tests, productions=productions):
                answered = ask_model((tests, productions, 2, 6), blind_accuracy(), *STATE)
                self.assertEqual(answered, [[0, 2, 3], *state_answers(tests, productions, 2, 6)])

    def test_a_merge_does_not_count(self):
        answered = ask_model(THREE, merge_signals(0, 0, 0), blind_accuracy(), best_accuracy())
        self.assertEqual(answered[1:], [[0, 2, 3], [0, 2, 3]])

    def test_as_defined(self):
        for model in MODELS:
            prior = Fraction(model[2], model[3])
            with self.subTest(model=model):
                self.assertEqual(ask_model(model, blind_accuracy()), [fraction_answer(max(prior, 1 - prior))])


class AccuracyForPrior(unittest.TestCase):
    def test_another_prior(self):
        answered = ask_model(((3, 1), (1, 3), 1, 2), accuracy_for_prior(1, 2), accuracy_for_prior(1, 3),
                             accuracy_for_prior(1, 5), accuracy_for_prior(4, 5))
        self.assertEqual(answered, [[0, 3, 4], [0, 3, 4], [0, 4, 5], [0, 4, 5]])
        self.assertEqual(ask_model(THREE, accuracy_for_prior(1, 3), accuracy_for_prior(1, 2)),
                         [[0, 23, 30], [0, 43, 60]])

    def test_prior_0_and_1_are_certain(self):
        for num, den in ((0, 1), (0, 99), (1, 1), (99, 99)):
            with self.subTest(num=num, den=den):
                self.assertEqual(ask_model(THREE, accuracy_for_prior(num, den)), [[0, 1, 1]])

    def test_the_models_own_prior_does_not_count(self):
        for num, den in PRIORS:
            with self.subTest(num=num, den=den):
                self.assertEqual(ask_model((*THREE[:2], num, den), accuracy_for_prior(1, 2)), [[0, 43, 60]])

    def test_the_state_is_not_changed(self):
        for num, den in PRIORS:
            with self.subTest(num=num, den=den):
                answered = ask_model(THREE, accuracy_for_prior(num, den), best_accuracy(), blind_accuracy(), *STATE)
                self.assertEqual(answered[1:], [[0, 23, 30], [0, 2, 3], *state_answers(*THREE)])

    def test_it_tells_the_best_accuracy_with_the_prior_set(self):
        for model in MODELS:
            for num, den in PRIORS:
                with self.subTest(model=model, num=num, den=den):
                    answered = ask_model(model, accuracy_for_prior(num, den), set_prior(num, den), best_accuracy())
                    self.assertEqual(answered[0], answered[2])

    def test_after_a_merge(self):
        answered = ask_model(THREE, merge_signals(0, 0, 2), accuracy_for_prior(1, 2), accuracy_for_prior(1, 3))
        self.assertEqual(answered[1:], [[0, 43, 60], [0, 61, 90]])

    def test_priors_outside_the_limits(self):
        for num, den in PRIORS_OUTSIDE:
            with self.subTest(num=num, den=den):
                answered = ask_model(THREE, accuracy_for_prior(num, den), best_accuracy(), *STATE)
                self.assertEqual(answered, [OUTSIDE_LIMITS, [0, 23, 30], *state_answers(*THREE)])

    def test_as_defined(self):
        for tests, productions, num, den in MODELS:
            for prior in PRIORS:
                with self.subTest(tests=tests, productions=productions, prior=prior):
                    joint = joint_probabilities((tests, productions, *prior))
                    expected = fraction_answer(sum(max(pair) for pair in zip(*joint)))
                    self.assertEqual(ask_model((tests, productions, num, den), accuracy_for_prior(*prior)), [expected])


if __name__ == "__main__":
    unittest.main()
