"""The points of the document's requirements that the calls keep together."""

import unittest
from fractions import Fraction

from tests.calling import (
    MODELS, UNDEFINED, answered_fraction, ask_model, best_accuracy, posterior, signal_probability, total_variation,
)


def probabilities(model):
    count = len(model[0])
    answered = ask_model(model, *[signal_probability(signal) for signal in range(count)])
    return [answered_fraction(answer) for answer in answered]


def joint_tests(model):
    """joint_test of every signal, from what is answered: the posterior times the probability."""
    joint = []
    for signal, probability in enumerate(probabilities(model)):
        answer = ask_model(model, posterior(signal))[0]
        if answer == UNDEFINED and probability == 0:
            joint.append(Fraction(0))
        else:
            joint.append(answered_fraction(answer) * probability)
    return joint


class PointFive(unittest.TestCase):
    def test_the_signal_probabilities_add_up_to_1(self):
        for model in MODELS:
            with self.subTest(model=model):
                self.assertEqual(sum(probabilities(model)), 1)

    def test_the_joint_probabilities_with_test_add_up_to_the_prior(self):
        for model in MODELS:
            with self.subTest(model=model):
                self.assertEqual(sum(joint_tests(model)), Fraction(model[2], model[3]))


class PointSix(unittest.TestCase):
    def test_at_a_prior_of_a_half(self):
        for tests, productions, num, den in MODELS:
            for half in ((1, 2), (49, 98)):
                with self.subTest(tests=tests, productions=productions, half=half):
                    answered = ask_model((tests, productions, *half), best_accuracy(), total_variation())
                    accuracy, distance = [answered_fraction(answer) for answer in answered]
                    self.assertEqual(accuracy, Fraction(1, 2) + distance / 2)


if __name__ == "__main__":
    unittest.main()
