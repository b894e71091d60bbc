"""set_shares, best_detector and widest_gap_set."""

import unittest
from fractions import Fraction

from tests.calling import (
    GREATEST, MODELS, OUTSIDE_LIMITS, STATE, ask, ask_model, best_detector, create, fraction_answer, merge_signals,
    set_production_weights, set_shares, set_test_weights, state_answers, total_variation, widest_gap_set,
)

# test shares 1/2, 1/3, 1/6; production shares 1/10, 3/10, 6/10
THREE = ((3, 2, 1), (1, 3, 6), 2, 6)
BOUNDS_OUTSIDE = ((0, 0), (1, 0), (0, 100), (1, 100), (100, 100), (2, 1), (3, 2), (100, 99), (99, 98), (GREATEST, 99),
                  (0, GREATEST), (1, GREATEST), (GREATEST, GREATEST), (GREATEST, 0), (GREATEST, 1))


def shares_of(weights, mask):
    """The share of the set with this mask."""
    held = sum(weight for signal, weight in enumerate(weights) if mask & (1 << signal))
    return Fraction(held, sum(weights))


def masks_of(model):
    return range(2 ** len(model[0]))


class SetShares(unittest.TestCase):
    def test_every_set_of_three_signals(self):
        answered = ask_model(THREE, *[set_shares(mask) for mask in range(8)])
        self.assertEqual(answered, [
            [0, 0, 1, 0, 1], [0, 1, 2, 1, 10], [0, 1, 3, 3, 10], [0, 5, 6, 2, 5],
            [0, 1, 6, 3, 5], [0, 2, 3, 7, 10], [0, 1, 2, 9, 10], [0, 1, 1, 1, 1],
        ])

    def test_the_empty_set_and_the_set_of_all(self):
        for model in MODELS:
            with self.subTest(model=model):
                answered = ask_model(model, set_shares(0), set_shares(2 ** len(model[0]) - 1))
                self.assertEqual(answered, [[0, 0, 1, 0, 1], [0, 1, 1, 1, 1]])

    def test_a_set_that_has_a_signal_that_does_not_exist(self):
        for count in range(1, 6):
            for mask in (2 ** count, 2 ** count + 1, 2 ** (count + 1) - 1, 64, 4294967294, GREATEST):
                with self.subTest(count=count, mask=mask):
                    self.assertEqual(ask(create(count), set_shares(mask), *STATE),
                                     [[0], OUTSIDE_LIMITS, *state_answers([1] * count, [1] * count, 1, 2)])

    def test_weights_of_0(self):
        model = ((0, 4, 0), (6, 0, 0), 1, 2)
        self.assertEqual(ask_model(model, *[set_shares(mask) for mask in (1, 2, 4, 3, 6)]),
                         [[0, 0, 1, 1, 1], [0, 1, 1, 0, 1], [0, 0, 1, 0, 1], [0, 1, 1, 1, 1], [0, 1, 1, 0, 1]])

    def test_the_prior_does_not_count_and_nothing_is_changed(self):
        for num, den in ((0, 1), (1, 1), (2, 6)):
            with self.subTest(num=num, den=den):
                answered = ask_model(((3, 1), (1, 4), num, den), set_shares(1), *STATE)
                self.assertEqual(answered, [[0, 3, 4, 1, 5], *state_answers((3, 1), (1, 4), num, den)])

    def test_as_defined(self):
        for model in MODELS:
            for mask in masks_of(model):
                with self.subTest(model=model, mask=mask):
                    expected = fraction_answer(shares_of(model[0], mask), shares_of(model[1], mask))
                    self.assertEqual(ask_model(model, set_shares(mask)), [expected])


class BestDetector(unittest.TestCase):
    def test_the_documents_example(self):
        self.assertEqual(ask_model(((3, 1), (1, 3), 1, 2), best_detector(1, 4)), [[1, 3, 4]])

    def test_bounds_from_0_to_1(self):
        bounds = ((0, 1), (1, 11), (1, 10), (39, 99), (2, 5), (69, 99), (7, 10), (98, 99), (1, 1), (99, 99))
        answered = ask_model(THREE, *[best_detector(num, den) for num, den in bounds])
        self.assertEqual(answered, [[0, 0, 1], [0, 0, 1], [1, 1, 2], [1, 1, 2], [3, 5, 6], [3, 5, 6], [3, 5, 6],
                                    [3, 5, 6], [7, 1, 1], [7, 1, 1]])

    def test_a_set_at_the_bound_respects_it(self):
        model = ((3, 1), (1, 3), 1, 2)
        answered = ask_model(model, best_detector(24, 97), best_detector(24, 96), best_detector(25, 99),
                             best_detector(73, 98), best_detector(74, 98))
        self.assertEqual(answered, [[0, 0, 1], [1, 3, 4], [1, 3, 4], [1, 3, 4], [1, 3, 4]])
        model = ((1, 3), (1, 3), 1, 2)
        answered = ask_model(model, best_detector(74, 99), best_detector(3, 4), best_detector(75, 99))
        self.assertEqual(answered, [[1, 1, 4], [2, 3, 4], [2, 3, 4]])

    def test_not_one_signal_after_another_by_their_ratios(self):
        # Signal 0 has the best ratio, but it isn't in the best set.
        model = ((30, 50, 60), (10, 20, 30), 1, 2)
        self.assertEqual(ask_model(model, best_detector(5, 6)), [[6, 11, 14]])

    def test_ties_go_to_the_smallest_mask(self):
        self.assertEqual(ask_model(((1, 1), (1, 1), 1, 2), best_detector(1, 2)), [[1, 1, 2]])
        self.assertEqual(ask_model(((0, 1), (0, 1), 1, 2), best_detector(1, 1)), [[2, 1, 1]])
        self.assertEqual(ask_model(((1, 0), (0, 1), 1, 2), best_detector(1, 1)), [[1, 1, 1]])
        self.assertEqual(ask_model(((0, 0, 5), (1, 0, 0), 1, 2), best_detector(1, 1)), [[4, 1, 1]])
        self.assertEqual(ask_model(((1, 2, 3), (1, 1, 4), 1, 2), best_detector(4, 6)), [[3, 1, 2]])
        self.assertEqual(ask_model(((0, 1), (1, 0), 1, 2), best_detector(0, 1)), [[2, 1, 1]])

    def test_bound_0_lets_through_what_production_never_shows(self):
        self.assertEqual(ask_model(((1, 2, 3, 4), (0, 5, 0, 5), 1, 2), best_detector(0, 99)), [[5, 2, 5]])
        self.assertEqual(ask_model(((0, 1), (1, 1), 1, 2), best_detector(0, 1)), [[0, 0, 1]])

    def test_bound_1_lets_all_through_that_tests_show(self):
        for num in (1, 99):
            with self.subTest(num=num):
                self.assertEqual(ask_model(((1, 0, 3, 0), (1, 2, 3, 4), 1, 2), best_detector(num, num)), [[5, 1, 1]])

    def test_bounds_outside_the_limits(self):
        for num, den in BOUNDS_OUTSIDE:
            with self.subTest(num=num, den=den):
                answered = ask_model(THREE, best_detector(num, den), *STATE)
                self.assertEqual(answered, [OUTSIDE_LIMITS, *state_answers(*THREE)])

    def test_the_prior_does_not_count_and_nothing_is_changed(self):
        for num, den in ((0, 1), (1, 1), (2, 6)):
            with self.subTest(num=num, den=den):
                answered = ask_model(((3, 1), (1, 4), num, den), best_detector(1, 5), *STATE)
                self.assertEqual(answered, [[1, 3, 4], *state_answers((3, 1), (1, 4), num, den)])

    def test_after_a_merge(self):
        answered = ask_model(THREE, merge_signals(2, 2, 0), best_detector(4, 10), best_detector(39, 99))
        self.assertEqual(answered[1:], [[4, 5, 6], [0, 0, 1]])

    def test_as_defined(self):
        for model in MODELS:
            tests, productions = model[:2]
            for bound in ((0, 1), (1, 99), (1, 4), (1, 3), (49, 98), (2, 3), (97, 98), (99, 99)):
                with self.subTest(model=model, bound=bound):
                    allowed = [mask for mask in masks_of(model) if shares_of(productions, mask) <= Fraction(*bound)]
                    # max takes the first of equals: the smallest mask.
                    best = max(allowed, key=lambda mask: shares_of(tests, mask))
                    expected = [best] + fraction_answer(shares_of(tests, best))[1:]
                    self.assertEqual(ask_model(model, best_detector(*bound)), [expected])


class WidestGapSet(unittest.TestCase):
    def test_ordinary_models(self):
        self.assertEqual(ask_model(THREE, widest_gap_set()), [[3, 13, 30]])
        self.assertEqual(ask_model(((1, 3), (3, 1), 1, 2), widest_gap_set()), [[2, 1, 2]])
        self.assertEqual(ask_model(((4, 1, 4, 1, 0), (1, 4, 1, 1, 3), 1, 2), widest_gap_set()), [[5, 3, 5]])

    def test_ties_go_to_the_smallest_mask(self):
        # Signals of which tests and production have the same share stay out.
        self.assertEqual(ask_model(((1, 3, 1), (1, 1, 3), 1, 2), widest_gap_set()), [[2, 2, 5]])
        self.assertEqual(ask_model(((0, 1, 0, 0), (0, 0, 1, 0), 1, 2), widest_gap_set()), [[2, 1, 1]])

    def test_no_gap_at_all_is_the_empty_set(self):
        self.assertEqual(ask(create(5), widest_gap_set()), [[0], [0, 0, 1]])
        self.assertEqual(ask_model(((7,), (3,), 1, 2), widest_gap_set()), [[0, 0, 1]])
        self.assertEqual(ask_model(((2, 4), (1, 2), 0, 1), widest_gap_set()), [[0, 0, 1]])

    def test_it_follows_the_weights_and_a_merge(self):
        answered = ask(create(3), set_test_weights(1, 2, 3), widest_gap_set(), set_production_weights(3, 2, 1),
                       widest_gap_set(), merge_signals(2, 1, 2), widest_gap_set())
        self.assertEqual(answered[2::2], [[4, 1, 6], [4, 1, 3], [0, 0, 1]])

    def test_the_prior_does_not_count_and_nothing_is_changed(self):
        for num, den in ((0, 1), (1, 1), (2, 6)):
            with self.subTest(num=num, den=den):
                answered = ask_model(((3, 1), (1, 4), num, den), widest_gap_set(), *STATE)
                self.assertEqual(answered, [[1, 11, 20], *state_answers((3, 1), (1, 4), num, den)])

    def test_as_defined(self):
        for model in MODELS:
            tests, productions = model[:2]
            with self.subTest(model=model):
                best = max(masks_of(model), key=lambda mask: shares_of(tests, mask) - shares_of(productions, mask))
                gap = shares_of(tests, best) - shares_of(productions, best)
                answered = ask_model(model, widest_gap_set(), total_variation())
                self.assertEqual(answered, [[best] + fraction_answer(gap)[1:], fraction_answer(gap)])


if __name__ == "__main__":
    unittest.main()
