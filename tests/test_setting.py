"""create, set_test_weights, set_production_weights, set_prior and get_weights."""

import unittest

from tests.calling import (
    GREATEST, NO_MODEL, OUTSIDE_LIMITS, accuracy_for_prior, ask, ask_last, best_accuracy, best_detector, best_guesses,
    blind_accuracy, call, certainty, create, get_weights, merge_signals, posterior, preview_merge, sequence_accuracy,
    sequence_posterior, sequence_total_variation, set_prior, set_production_weights, set_shares, set_test_weights,
    signal_probability, total_variation, widest_gap_set,
)

WEIGHT_SETTERS = ((set_test_weights, 1), (set_production_weights, 2))
# Calls that would be fine on a model, and calls that a model would refuse with another code.
CALLS_ON_A_MODEL = [
    set_test_weights(1, 1), set_test_weights(), set_test_weights(0), set_test_weights(100), set_test_weights(*[1] * 8),
    set_production_weights(1, 1), set_production_weights(), set_production_weights(0), set_production_weights(100),
    set_prior(1, 2), set_prior(1, 0), set_prior(2, 1), set_prior(GREATEST, GREATEST),
    get_weights(), signal_probability(0), signal_probability(5), signal_probability(GREATEST),
    posterior(0), posterior(5), posterior(GREATEST), certainty(0), certainty(5), certainty(GREATEST),
    total_variation(), best_accuracy(), best_guesses(), blind_accuracy(),
    merge_signals(0, 0), merge_signals(), merge_signals(GREATEST), merge_signals(*[0] * 8),
    preview_merge(0, 0), preview_merge(), preview_merge(GREATEST), preview_merge(*[0] * 8),
    sequence_total_variation(0), sequence_total_variation(4), sequence_total_variation(GREATEST),
    sequence_accuracy(0), sequence_accuracy(4), sequence_accuracy(GREATEST),
    sequence_posterior(), sequence_posterior(0), sequence_posterior(GREATEST), sequence_posterior(*[0] * 7),
    set_shares(0), set_shares(32), set_shares(GREATEST),
    best_detector(1, 2), best_detector(1, 0), best_detector(2, 1), best_detector(0, GREATEST),
    widest_gap_set(), accuracy_for_prior(1, 2), accuracy_for_prior(1, 0), accuracy_for_prior(2, 1),
]


def weights_of(answer):
    """The test weights and the production weights of an answer of get_weights."""
    count = answer[0]
    return answer[1:1 + count], answer[1 + count:]


class NoModelYet(unittest.TestCase):
    def test_every_call_but_create_is_refused(self):
        for one in CALLS_ON_A_MODEL:
            with self.subTest(call=one):
                self.assertEqual(ask(one), [NO_MODEL])

    def test_also_one_behind_another_and_behind_a_failed_create(self):
        self.assertEqual({one[0] for one in CALLS_ON_A_MODEL}, set(range(1, 21)))
        self.assertLess(len(CALLS_ON_A_MODEL), 60)
        refused = [NO_MODEL] * len(CALLS_ON_A_MODEL)
        self.assertEqual(ask(*CALLS_ON_A_MODEL), refused)
        self.assertEqual(ask(create(0), *CALLS_ON_A_MODEL), [OUTSIDE_LIMITS] + refused)

    def test_a_refused_call_makes_no_model(self):
        answered = ask(set_test_weights(2, 3), set_prior(1, 3), create(2), get_weights(), set_prior(0, 1))
        self.assertEqual(answered, [NO_MODEL, NO_MODEL, [0], [2, 1, 1, 1, 1], [0, 1, 2]])


class Create(unittest.TestCase):
    def test_all_weights_are_1_and_the_prior_is_a_half(self):
        for count in range(1, 6):
            with self.subTest(count=count):
                answered = ask(create(count), get_weights(), set_prior(0, 1))
                self.assertEqual(answered, [[0], [count] + [1] * (2 * count), [0, 1, 2]])

    def test_counts_outside_1_to_5(self):
        for count in (0, 6, 7, 8, 99, 4294967294, GREATEST):
            with self.subTest(count=count):
                self.assertEqual(ask(create(count)), [OUTSIDE_LIMITS])
                self.assertEqual(ask(create(count), get_weights()), [OUTSIDE_LIMITS, NO_MODEL])

    def test_a_failed_create_keeps_the_model(self):
        for count in (0, 6, GREATEST):
            with self.subTest(count=count):
                answered = ask(create(2), set_test_weights(3, 1), set_production_weights(1, 4), set_prior(2, 6),
                               create(count), get_weights(), posterior(0), set_prior(1, 1))
                self.assertEqual(answered[4:], [OUTSIDE_LIMITS, [2, 3, 1, 1, 4], [0, 15, 23], [0, 2, 6]])

    def test_another_create_replaces_the_model(self):
        answered = ask(create(2), set_test_weights(3, 1), set_production_weights(1, 4), set_prior(2, 6),
                       create(3), get_weights(), set_prior(1, 1), create(1), get_weights(), set_prior(1, 1))
        self.assertEqual(answered[4:7], [[0], [3, 1, 1, 1, 1, 1, 1], [0, 1, 2]])
        self.assertEqual(answered[7:], [[0], [1, 1, 1], [0, 1, 2]])

    def test_the_same_count_replaces_the_model_too(self):
        answered = ask(create(2), set_test_weights(3, 1), set_prior(2, 6), create(2), get_weights(), set_prior(1, 1))
        self.assertEqual(answered[3:], [[0], [2, 1, 1, 1, 1], [0, 1, 2]])


class SetWeights(unittest.TestCase):
    def test_the_sum_is_answered_and_the_weights_are_replaced(self):
        answered = ask(create(3), set_test_weights(4, 0, 6), set_production_weights(1, 2, 0), get_weights(),
                       set_test_weights(0, 99, 7), get_weights(), set_production_weights(5, 5, 5), get_weights())
        self.assertEqual(answered, [[0], [10], [3], [3, 4, 0, 6, 1, 2, 0], [106], [3, 0, 99, 7, 1, 2, 0],
                                    [15], [3, 0, 99, 7, 5, 5, 5]])

    def test_each_setter_leaves_the_weights_of_the_other_kind(self):
        for setter, kept in ((set_test_weights, 1), (set_production_weights, 0)):
            with self.subTest(setter=setter.__name__):
                weights = weights_of(ask_last(create(2), setter(8, 9), get_weights()))
                self.assertEqual(weights[kept], [1, 1])
                self.assertEqual(weights[1 - kept], [8, 9])

    def test_weights_at_the_limits(self):
        for setter, place in WEIGHT_SETTERS:
            for weights in ((1,), (99,), (0, 1), (1, 0), (0, 99), (99, 99, 99, 99, 99), (0, 0, 0, 0, 1)):
                with self.subTest(place=place, weights=weights):
                    answered = ask(create(len(weights)), setter(*weights), get_weights())
                    self.assertEqual(answered[1], [sum(weights)])
                    self.assertEqual(weights_of(answered[2])[place - 1], list(weights))

    def assert_refused(self, place, count, weights):
        with self.subTest(place=place, count=count, weights=weights):
            before = [create(count), set_test_weights(*range(1, count + 1)),
                      set_production_weights(*range(7, count + 7)), set_prior(2, 6)]
            answered = ask(*before, call(place, *weights), get_weights(), set_prior(0, 1))
            self.assertEqual(answered[4], OUTSIDE_LIMITS)
            self.assertEqual(answered[5], [count, *range(1, count + 1), *range(7, count + 7)])
            self.assertEqual(answered[6], [0, 2, 6])

    def test_a_weight_above_99(self):
        for setter, place in WEIGHT_SETTERS:
            for count in (1, 3, 5):
                for where in range(count):
                    for weight in (100, 101, 4294967294, GREATEST):
                        weights = [1] * count
                        weights[where] = weight
                        self.assert_refused(place, count, weights)
            self.assert_refused(place, 2, [0, 100])

    def test_all_weights_0(self):
        for setter, place in WEIGHT_SETTERS:
            for count in range(1, 6):
                self.assert_refused(place, count, [0] * count)

    def test_too_few_or_too_many(self):
        for setter, place in WEIGHT_SETTERS:
            for count in range(1, 6):
                for given in range(9):
                    if given != count:
                        self.assert_refused(place, count, [1] * given)
                        self.assert_refused(place, count, [0] * given)

    def test_the_number_of_weights_follows_the_newest_model(self):
        for setter, place in WEIGHT_SETTERS:
            with self.subTest(place=place):
                answered = ask(create(2), create(3), setter(1, 1), setter(1, 1, 2), create(2), setter(1, 1, 2))
                self.assertEqual(answered[2:], [OUTSIDE_LIMITS, [4], [0], OUTSIDE_LIMITS])


class SetPrior(unittest.TestCase):
    def test_the_previous_prior_is_answered_as_it_was_set(self):
        answered = ask(create(1), set_prior(2, 6), set_prior(50, 99), set_prior(0, 7), set_prior(7, 7), set_prior(0, 1))
        self.assertEqual(answered, [[0], [0, 1, 2], [0, 2, 6], [0, 50, 99], [0, 0, 7], [0, 7, 7]])

    def test_a_prior_at_the_limits(self):
        for num, den in ((0, 1), (1, 1), (0, 99), (99, 99), (98, 99), (1, 99), (0, 2), (2, 2)):
            with self.subTest(num=num, den=den):
                self.assertEqual(ask(create(1), set_prior(num, den), set_prior(1, 2))[1:], [[0, 1, 2], [0, num, den]])

    def test_a_prior_outside_the_limits_is_not_set(self):
        outside = ((0, 0), (1, 0), (0, 100), (1, 100), (100, 100), (2, 1), (3, 2), (100, 99), (99, 98), (GREATEST, 99),
                   (0, GREATEST), (1, GREATEST), (GREATEST, GREATEST), (GREATEST, 0), (GREATEST, 1))
        for num, den in outside:
            with self.subTest(num=num, den=den):
                answered = ask(create(2), set_test_weights(3, 1), set_prior(2, 6), set_prior(num, den),
                               get_weights(), posterior(0), set_prior(1, 2))
                self.assertEqual(answered[3:], [OUTSIDE_LIMITS, [2, 3, 1, 1, 1], [0, 3, 7], [0, 2, 6]])

    def test_the_weights_stay(self):
        self.assertEqual(ask_last(create(2), set_test_weights(3, 1), set_prior(1, 1), get_weights()), [2, 3, 1, 1, 1])


class GetWeights(unittest.TestCase):
    def test_tests_first_each_in_the_order_of_the_signals(self):
        answered = ask(create(5), set_production_weights(9, 8, 7, 0, 5), set_test_weights(1, 2, 0, 4, 99),
                       get_weights(), get_weights())
        self.assertEqual(answered[3:], [[5, 1, 2, 0, 4, 99, 9, 8, 7, 0, 5]] * 2)

    def test_weights_are_not_reduced(self):
        self.assertEqual(ask_last(create(1), set_test_weights(6), set_production_weights(9), get_weights()), [1, 6, 9])


if __name__ == "__main__":
    unittest.main()
