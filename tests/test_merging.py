"""merge_signals and preview_merge, and the other calls after a merge."""

import unittest
from fractions import Fraction
from itertools import product

from tests.calling import (
    GREATEST, MODELS, OUTSIDE_LIMITS, STATE, UNDEFINED, ask, ask_model, best_accuracy, best_detector, best_guesses,
    blind_accuracy, certainty, create, get_weights, merge_signals, model_calls, posterior, preview_merge,
    sequence_accuracy, sequence_posterior, sequence_total_variation, set_prior, set_production_weights, set_shares,
    set_test_weights, signal_probability, state_answers, total_variation, widest_gap_set,
)

# test shares 1/2, 1/3, 1/6; production shares 1/10, 3/10, 6/10
THREE = ((3, 2, 1), (1, 3, 6), 2, 6)
MERGING_CALLS = (merge_signals, preview_merge)


def some_mappings(count):
    """All mappings of few signals, and some of many."""
    every = list(product(range(count), repeat=count))
    return every[::max(1, len(every) // 40)] + every[-1:]


class MergeSignals(unittest.TestCase):
    def test_two_signals_are_seen_as_one(self):
        answered = ask_model(THREE, merge_signals(0, 0, 2), *STATE)
        self.assertEqual(answered, [[0, 13, 30], *state_answers((5, 0, 1), (4, 0, 6), 2, 6)])

    def test_the_distance_is_that_after_the_merge(self):
        answered = ask_model(THREE, total_variation(), merge_signals(2, 1, 2), total_variation())
        self.assertEqual(answered, [[0, 13, 30], [0, 1, 30], [0, 1, 30]])

    def test_all_signals_are_seen_as_one(self):
        for target in range(3):
            with self.subTest(target=target):
                tests, productions = [0, 0, 0], [0, 0, 0]
                tests[target], productions[target] = 6, 10
                answered = ask_model(THREE, merge_signals(*[target] * 3), *STATE)
                self.assertEqual(answered, [[0, 0, 1], *state_answers(tests, productions, 2, 6)])

    def test_each_signal_is_seen_as_itself(self):
        answered = ask_model(THREE, merge_signals(0, 1, 2), *STATE)
        self.assertEqual(answered, [[0, 13, 30], *state_answers(*THREE)])

    def test_signals_change_their_places(self):
        answered = ask_model(THREE, merge_signals(1, 2, 0), *STATE)
        self.assertEqual(answered, [[0, 13, 30], *state_answers((1, 3, 2), (6, 1, 3), 2, 6)])

    def test_the_old_weights_count_and_no_mapping_is_followed_twice(self):
        answered = ask_model(THREE, merge_signals(1, 2, 2), get_weights())
        self.assertEqual(answered[1], [3, 0, 3, 3, 0, 1, 9])
        answered = ask_model(THREE, merge_signals(1, 0, 0), get_weights())
        self.assertEqual(answered[1], [3, 3, 3, 0, 9, 1, 0])

    def test_merges_one_behind_another(self):
        answered = ask_model(THREE, merge_signals(1, 1, 2), merge_signals(0, 2, 2), merge_signals(2, 1, 0), *STATE)
        self.assertEqual(answered, [[0, 13, 30], [0, 0, 1], [0, 0, 1], *state_answers((6, 0, 0), (10, 0, 0), 2, 6)])

    def test_one_signal(self):
        self.assertEqual(ask_model(((4,), (9,), 1, 3), merge_signals(0), *STATE),
                         [[0, 0, 1], *state_answers((4,), (9,), 1, 3)])

    def test_weights_above_99(self):
        most = [99] * 5
        answered = ask(create(5), set_test_weights(*most), set_production_weights(*most), set_prior(3, 9),
                       merge_signals(4, 4, 4, 4, 4), *STATE)
        self.assertEqual(answered[4:], [[0, 0, 1], *state_answers((0, 0, 0, 0, 495), (0, 0, 0, 0, 495), 3, 9)])

    def test_weights_above_99_stay_through_another_merge(self):
        answered = ask(create(3), set_test_weights(99, 99, 98), set_production_weights(97, 1, 96),
                       merge_signals(1, 1, 2), get_weights(), merge_signals(0, 0, 0), get_weights())
        self.assertEqual(answered[4:], [[3, 0, 198, 98, 0, 98, 96], [0, 0, 1], [3, 296, 0, 0, 194, 0, 0]])

    def test_the_prior_stays_as_it_was_set(self):
        for num, den in ((0, 7), (7, 7), (2, 6), (50, 98)):
            with self.subTest(num=num, den=den):
                answered = ask_model(((3, 1), (1, 3), num, den), merge_signals(1, 1), set_prior(1, 2))
                self.assertEqual(answered, [[0, 0, 1], [0, num, den]])

    def test_another_model_knows_nothing_of_the_merge(self):
        answered = ask_model(THREE, merge_signals(0, 0, 0), create(3), *STATE)
        self.assertEqual(answered[2:], state_answers((1, 1, 1), (1, 1, 1), 1, 2))

    def test_as_defined(self):
        for model in MODELS:
            tests, productions, num, den = model
            count = len(tests)
            for mapping in some_mappings(count):
                with self.subTest(model=model, mapping=mapping):
                    merged_tests, merged_productions = [0] * count, [0] * count
                    for signal, target in enumerate(mapping):
                        merged_tests[target] += tests[signal]
                        merged_productions[target] += productions[signal]
                    answered = ask_model(model, merge_signals(*mapping), *STATE, total_variation())
                    self.assertEqual(answered[1:3], state_answers(merged_tests, merged_productions, num, den))
                    self.assertEqual(answered[0], answered[3])


class AfterAMerge(unittest.TestCase):
    def test_signals_that_nothing_is_mapped_to_have_probability_0(self):
        answered = ask_model(THREE, merge_signals(2, 2, 2), signal_probability(0), posterior(0), certainty(1),
                             best_guesses(), signal_probability(2), posterior(2), certainty(2))
        self.assertEqual(answered[1:], [[0, 0, 1], UNDEFINED, UNDEFINED, [3, 1, 1, 0], [0, 1, 1], [0, 1, 3], [0]])

    def test_the_number_of_signals_is_the_same(self):
        answered = ask_model(THREE, merge_signals(0, 0, 0), signal_probability(2), posterior(3), set_shares(7),
                             set_shares(8), set_test_weights(1, 1), set_test_weights(1, 1, 1), merge_signals(0))
        self.assertEqual(answered[1:], [[0, 0, 1], [-2], [0, 1, 1, 1, 1], OUTSIDE_LIMITS, OUTSIDE_LIMITS, [3],
                                        OUTSIDE_LIMITS])

    def test_the_asking_calls_take_the_merged_weights(self):
        # test shares 5/6, 0, 1/6; production shares 4/10, 0, 6/10; prior 1/3
        answered = ask_model(THREE, merge_signals(0, 0, 2), signal_probability(0), posterior(0), best_accuracy(),
                             best_guesses(), blind_accuracy(), sequence_total_variation(1), sequence_accuracy(1),
                             sequence_posterior(0, 2), set_shares(1), best_detector(4, 10), widest_gap_set())
        self.assertEqual(answered[1:], [
            [0, 49, 90], [0, 25, 49], [0, 61, 90], [3, 1, 1, 0], [0, 2, 3], [0, 13, 30], [0, 61, 90],
            [0, 125, 557], [0, 5, 6, 2, 5], [1, 5, 6], [1, 13, 30],
        ])

    def test_weights_are_set_anew(self):
        answered = ask(create(2), set_test_weights(99, 99), merge_signals(1, 1), set_test_weights(198, 0),
                       set_test_weights(0, 100), get_weights(), set_test_weights(99, 0), get_weights())
        self.assertEqual(answered[3:], [OUTSIDE_LIMITS, OUTSIDE_LIMITS, [2, 0, 198, 0, 2], [99], [2, 99, 0, 0, 2]])

    def test_weights_of_great_sums_stay_exact(self):
        model = ((99, 99, 99, 99, 98), (99, 97, 95, 93, 91), 97, 99)
        test = Fraction(97, 99) * Fraction(396, 494)
        production = Fraction(2, 99) * Fraction(384, 475)
        answered = ask_model(model, merge_signals(0, 0, 0, 0, 4), posterior(0), sequence_posterior(*[0] * 6))
        expected = test / (test + production)
        self.assertEqual(answered[1], [0, expected.numerator, expected.denominator])
        test = Fraction(97, 99) * Fraction(396, 494) ** 6
        production = Fraction(2, 99) * Fraction(384, 475) ** 6
        expected = test / (test + production)
        self.assertEqual(answered[2], [0, expected.numerator, expected.denominator])


class PreviewMerge(unittest.TestCase):
    def test_the_documents_example(self):
        self.assertEqual(ask_model(((3, 1), (1, 3), 1, 2), preview_merge(0, 0)), [[0, 0, 1, 1, 2]])

    def test_distance_and_accuracy_as_after_the_merge(self):
        self.assertEqual(ask_model(THREE, preview_merge(0, 0, 2)), [[0, 13, 30, 61, 90]])
        self.assertEqual(ask_model(THREE, preview_merge(2, 1, 2)), [[0, 1, 30, 2, 3]])
        self.assertEqual(ask_model(THREE, preview_merge(0, 1, 2)), [[0, 13, 30, 23, 30]])

    def test_prior_0_and_1(self):
        for num in (0, 1):
            with self.subTest(num=num):
                self.assertEqual(ask_model(((3, 1), (1, 3), num, 1), preview_merge(1, 1), preview_merge(1, 0)),
                                 [[0, 0, 1, 1, 1], [0, 1, 2, 1, 1]])

    def test_the_state_is_not_changed(self):
        answered = ask_model(THREE, preview_merge(2, 2, 2), total_variation(), best_accuracy(), posterior(0),
                             preview_merge(0, 0, 0), *STATE)
        self.assertEqual(answered[1:4], [[0, 13, 30], [0, 23, 30], [0, 5, 7]])
        self.assertEqual(answered[5:], state_answers(*THREE))

    def test_also_after_a_merge(self):
        answered = ask_model(THREE, merge_signals(0, 0, 2), preview_merge(1, 1, 1), preview_merge(2, 1, 0), *STATE)
        self.assertEqual(answered[1:], [[0, 0, 1, 2, 3], [0, 13, 30, 61, 90],
                                        *state_answers((5, 0, 1), (4, 0, 6), 2, 6)])

    def test_it_tells_what_the_merge_then_gives(self):
        for model in MODELS:
            for mapping in some_mappings(len(model[0])):
                with self.subTest(model=model, mapping=mapping):
                    previewed, distance, accuracy = ask_model(
                        model, preview_merge(*mapping), merge_signals(*mapping), best_accuracy())
                    self.assertEqual(previewed, distance + accuracy[1:])


class WrongMappings(unittest.TestCase):
    def assert_refused(self, count, mapping):
        tests, productions = tuple(range(1, count + 1)), tuple(range(7, count + 7))
        for asked in MERGING_CALLS:
            with self.subTest(count=count, mapping=mapping, asked=asked.__name__):
                answered = ask_model((tests, productions, 2, 6), asked(*mapping), *STATE)
                self.assertEqual(answered, [OUTSIDE_LIMITS, *state_answers(tests, productions, 2, 6)])

    def test_too_short_too_long_or_empty(self):
        for count in range(1, 6):
            for given in range(9):
                if given != count:
                    self.assert_refused(count, [0] * given)

    def test_a_signal_that_does_not_exist(self):
        for count in range(1, 6):
            for where in range(count):
                for signal in (count, count + 1, 8, 4294967294, GREATEST):
                    mapping = [0] * count
                    mapping[where] = signal
                    self.assert_refused(count, mapping)

    def test_both_at_once(self):
        self.assert_refused(2, [2, 2, 2])
        self.assert_refused(3, [GREATEST])

    def test_the_mapping_follows_the_newest_model(self):
        for asked in MERGING_CALLS:
            with self.subTest(asked=asked.__name__):
                answered = ask(create(3), create(2), asked(0, 1, 1), asked(0, 2), create(3), asked(0, 2))
                self.assertEqual(answered[2:], [OUTSIDE_LIMITS, OUTSIDE_LIMITS, [0], OUTSIDE_LIMITS])


class BeforeAndAfter(unittest.TestCase):
    def test_a_merge_behind_each_setter(self):
        answered = ask(*model_calls((3, 1), (1, 3), 1, 2), merge_signals(1, 1), set_test_weights(1, 3),
                       total_variation(), set_production_weights(3, 1), total_variation(), merge_signals(1, 0), *STATE)
        self.assertEqual(answered[4:], [[0, 0, 1], [4], [0, 1, 4], [4], [0, 1, 2], [0, 1, 2],
                                        *state_answers((3, 1), (1, 3), 1, 2)])


if __name__ == "__main__":
    unittest.main()
