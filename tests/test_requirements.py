"""The points of the document's requirements that the calls keep together.

All that is compared here is what the program answers; the definitions stand in the other tests.
"""

import unittest
from fractions import Fraction
from itertools import product

from tests.calling import (
    MODELS, UNDEFINED, answered_fraction, ask_model, best_accuracy, best_detector, blind_accuracy, fraction_of,
    merge_signals, posterior, sequence_accuracy, sequence_total_variation, set_shares, signal_probability,
    total_variation, widest_gap_set,
)

BOUNDS = ((0, 1), (1, 99), (1, 10), (1, 4), (1, 3), (1, 2), (49, 98), (3, 5), (98, 99), (1, 1), (99, 99))


def probabilities(model):
    count = len(model[0])
    answered = ask_model(model, *[signal_probability(signal) for signal in range(count)])
    return [answered_fraction(answer) for answer in answered]


def joint_tests(model):
    """joint_test of every signal, from what is answered: the posterior times the probability."""
    joint = []
    for signal, probability in enumerate(probabilities(model)):
        answer = ask_model(model, posterior(signal))[0]
        if answer == UNDEFINED and probability == 0:
            joint.append(Fraction(0))
        else:
            joint.append(answered_fraction(answer) * probability)
    return joint


def some_mappings(count):
    """All mappings of few signals, and some of many."""
    every = list(product(range(count), repeat=count))
    return every[::max(1, len(every) // 50)] + every[-1:]


def sets_of(model):
    """Every set's mask, test share and production share, as they are answered."""
    masks = range(2 ** len(model[0]))
    answered = ask_model(model, *[set_shares(mask) for mask in masks])
    return [(mask, fraction_of(answer[1:3]), fraction_of(answer[3:5])) for mask, answer in zip(masks, answered)]


def fractions_of(model, *calls):
    return [answered_fraction(answer) for answer in ask_model(model, *calls)]


class PointOne(unittest.TestCase):
    def test_merging_adds_no_information(self):
        for model in MODELS:
            for mapping in some_mappings(len(model[0])):
                with self.subTest(model=model, mapping=mapping):
                    asked = (total_variation(), best_accuracy(), blind_accuracy())
                    answered = fractions_of(model, *asked, merge_signals(*mapping), *asked)
                    distance, accuracy, blind, told, merged_distance, merged_accuracy, merged_blind = answered
                    self.assertEqual(told, merged_distance)
                    self.assertLessEqual(merged_distance, distance)
                    self.assertLessEqual(merged_accuracy, accuracy)
                    self.assertEqual(merged_blind, blind)
                    self.assertGreaterEqual(merged_accuracy, merged_blind)

    def test_also_merge_behind_merge(self):
        model = MODELS[11]
        mappings = ((0, 1, 2, 3, 3), (0, 0, 2, 3, 4), (4, 1, 2, 3, 0), (1, 1, 3, 3, 4), (4, 4, 4, 4, 4))
        calls = [total_variation(), best_accuracy()]
        for mapping in mappings:
            calls += [merge_signals(*mapping), best_accuracy()]
        answered = fractions_of(model, *calls)
        for values in (answered[0::2], answered[1::2]):
            self.assertEqual(values, sorted(values, reverse=True))
        self.assertEqual(answered[-2], 0)


class PointTwo(unittest.TestCase):
    def test_no_rule_is_right_more_often_than_the_best_accuracy(self):
        for model in MODELS:
            prior = Fraction(model[2], model[3])
            best = fractions_of(model, best_accuracy())[0]
            correct = [prior * test + (1 - prior) * (1 - production) for mask, test, production in sets_of(model)]
            with self.subTest(model=model):
                self.assertLessEqual(max(correct), best)
                self.assertIn(best, correct)


class PointThree(unittest.TestCase):
    def test_the_total_variation_is_the_largest_share_gap(self):
        for model in MODELS:
            distance = fractions_of(model, total_variation())[0]
            gaps = {mask: test - production for mask, test, production in sets_of(model)}
            told = ask_model(model, widest_gap_set())[0]
            with self.subTest(model=model):
                self.assertEqual(max(gaps.values()), distance)
                self.assertEqual(fraction_of(told[1:]), distance)
                self.assertEqual(gaps[told[0]], distance)
                self.assertEqual(told[0], min(mask for mask in gaps if gaps[mask] == distance))


class PointFour(unittest.TestCase):
    def test_a_longer_sequence_never_carries_less_information(self):
        for model in MODELS:
            with self.subTest(model=model):
                distances = fractions_of(model, *[sequence_total_variation(length) for length in range(4)])
                accuracies = fractions_of(model, *[sequence_accuracy(length) for length in range(4)])
                self.assertEqual(distances, sorted(distances))
                self.assertEqual(accuracies, sorted(accuracies))

    def test_at_most_the_length_times_the_total_variation(self):
        for model in MODELS:
            distance = fractions_of(model, total_variation())[0]
            for length in range(4):
                with self.subTest(model=model, length=length):
                    told = fractions_of(model, sequence_total_variation(length))[0]
                    self.assertLessEqual(told, length * distance)

    def test_there_are_models_where_it_carries_more(self):
        model = ((3, 1), (1, 3), 1, 2)
        self.assertLess(*fractions_of(model, sequence_total_variation(2), sequence_total_variation(3)))
        self.assertLess(*fractions_of(model, sequence_accuracy(2), sequence_accuracy(3)))


class PointFive(unittest.TestCase):
    def test_the_signal_probabilities_add_up_to_1(self):
        for model in MODELS:
            with self.subTest(model=model):
                self.assertEqual(sum(probabilities(model)), 1)

    def test_the_joint_probabilities_with_test_add_up_to_the_prior(self):
        for model in MODELS:
            with self.subTest(model=model):
                self.assertEqual(sum(joint_tests(model)), Fraction(model[2], model[3]))


class PointSix(unittest.TestCase):
    def test_at_a_prior_of_a_half(self):
        for tests, productions, num, den in MODELS:
            for half in ((1, 2), (49, 98)):
                with self.subTest(tests=tests, productions=productions, half=half):
                    answered = ask_model((tests, productions, *half), best_accuracy(), total_variation())
                    accuracy, distance = [answered_fraction(answer) for answer in answered]
                    self.assertEqual(accuracy, Fraction(1, 2) + distance / 2)


class PointSeven(unittest.TestCase):
    def test_the_detector_respects_the_bound_and_none_that_does_is_better(self):
        for model in MODELS:
            sets = sets_of(model)
            for num, den in BOUNDS:
                with self.subTest(model=model, num=num, den=den):
                    told = ask_model(model, best_detector(num, den))[0]
                    mask, test, production = sets[told[0]]
                    self.assertEqual(mask, told[0])
                    self.assertEqual(test, fraction_of(told[1:]))
                    self.assertLessEqual(production, Fraction(num, den))
                    allowed = [one for one in sets if one[2] <= Fraction(num, den)]
                    self.assertEqual(max(one[1] for one in allowed), test)
                    self.assertEqual(min(one[0] for one in allowed if one[1] == test), mask)


if __name__ == "__main__":
    unittest.main()
