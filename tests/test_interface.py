"""The form in which calls are handed in and answered."""

import unittest

from sessionsigns.model import answers
from tests.calling import (
    GREATEST, accuracy_for_prior, best_accuracy, best_detector, best_guesses, blind_accuracy, certainty, create,
    get_weights, joined, merge_signals, parted, posterior, preview_merge, sequence_accuracy, sequence_posterior,
    sequence_total_variation, set_prior, set_production_weights, set_shares, set_test_weights, signal_probability,
    total_variation, widest_gap_set,
)


class Untouchable(list):
    """A list that doesn't let itself be changed, not for a while either."""

    def refuse(self, *arguments, **keywords):
        raise AssertionError("the list handed in was changed")

    __setitem__ = __delitem__ = __iadd__ = __imul__ = refuse
    append = extend = insert = pop = remove = clear = reverse = sort = refuse


EXAMPLE = [
    create(2), set_test_weights(3, 1), set_production_weights(1, 3), total_variation(), best_accuracy(),
    posterior(0), preview_merge(0, 0), best_detector(1, 4), posterior(2),
]
EVERY_CALL = [
    get_weights(), create(5), set_test_weights(99, 0, 3, 0, 1), set_production_weights(0, 5, 3, 0, 2),
    set_prior(2, 6), set_prior(3, 9), get_weights(), signal_probability(0), posterior(2), certainty(1), posterior(3),
    certainty(GREATEST), total_variation(), best_accuracy(), best_guesses(), create(6), set_prior(1, 100),
    blind_accuracy(), preview_merge(0, 0, 2, 3, 4), merge_signals(4, 1, 2, 1, 4), get_weights(), merge_signals(5),
    preview_merge(0, 1, 2, 3, 5), sequence_total_variation(3), sequence_accuracy(2), sequence_accuracy(4),
    sequence_posterior(4, 4, 2, 2, 4, 4), sequence_posterior(0), sequence_posterior(5), set_shares(31), set_shares(32),
    best_detector(1, 3), best_detector(1, 0), widest_gap_set(), accuracy_for_prior(1, 99), accuracy_for_prior(3, 2),
]


class Interface(unittest.TestCase):
    def test_the_example_number_by_number(self):
        self.assertEqual(answers(joined(EXAMPLE)), [
            1, 0,
            1, 4,
            1, 4,
            3, 0, 1, 2,
            3, 0, 3, 4,
            3, 0, 3, 4,
            5, 0, 0, 1, 1, 2,
            3, 1, 3, 4,
            1, -2,
        ])

    def test_the_calls_as_the_document_writes_them(self):
        calls = [0, 1, 2, 0, 1, 2, 3, 1, 0, 2, 2, 1, 3, 0, 3, 2, 1, 4, 0, 4, 0, 0, 10, 0, 0]
        self.assertEqual(answers(calls), [1, 0, 1, 4, 1, 4, 3, 0, 1, 2, 5, 2, 3, 1, 1, 3, 3, 2, 1, 0])

    def test_the_later_calls_as_the_document_writes_them(self):
        calls = [
            0, 1, 2, 0, 1, 2, 3, 1, 0, 2, 2, 1, 3, 0,
            11, 0, 0, 13, 2, 1, 1, 0, 14, 1, 3, 0, 15, 1, 3, 0, 16, 0, 0, 16, 3, 0, 0, 1, 0, 17, 1, 2, 0,
            18, 2, 1, 4, 0, 19, 0, 0, 20, 2, 4, 5, 0, 12, 2, 1, 1, 0,
        ]
        self.assertEqual(answers(calls), [
            1, 0, 1, 4, 1, 4,
            3, 0, 1, 2, 5, 0, 0, 1, 1, 2, 3, 0, 11, 16, 3, 0, 27, 32, 3, 0, 1, 2, 3, 0, 3, 4, 5, 0, 1, 4, 3, 4,
            3, 1, 3, 4, 3, 1, 1, 2, 3, 0, 4, 5, 3, 0, 0, 1,
        ])

    def test_get_weights_and_best_guesses_have_their_count_among_the_numbers(self):
        answered = answers(joined([create(5), get_weights(), best_guesses()]))
        self.assertEqual(answered, [1, 0, 11, 5] + [1] * 10 + [6, 5] + [1] * 5)

    def test_a_refusal_is_its_code_alone(self):
        self.assertEqual(answers(get_weights()), [1, -11])
        self.assertEqual(answers(create(0)), [1, -22])
        self.assertEqual(answers(joined([create(1), posterior(1)])), [1, 0, 1, -2])
        self.assertEqual(answers(joined([create(2), set_test_weights(0, 1), set_prior(1, 1), posterior(0)])),
                         [1, 0, 1, 1, 3, 0, 1, 2, 1, -33])
        self.assertEqual(answers(joined([create(1), merge_signals(1), sequence_posterior(1), set_shares(2)])),
                         [1, 0] + [1, -22] * 3)

    def test_every_call_is_among_those_that_are_asked_here(self):
        self.assertEqual({one[0] for one in EVERY_CALL}, set(range(21)))
        self.assertLessEqual(len(EVERY_CALL), 60)

    def test_one_call(self):
        self.assertEqual(answers(create(1)), [1, 0])

    def test_sixty_calls(self):
        calls = [create(5)]
        for weight in range(59):
            calls.append(set_test_weights(weight, 1, 0, 0, 99))
        answered = parted(answers(joined(calls)))
        self.assertEqual(answered, [[0]] + [[weight + 100] for weight in range(59)])

    def test_sixty_calls_of_every_kind(self):
        asked = [
            create(2), set_test_weights(3, 1), set_production_weights(1, 3), set_prior(2, 4), get_weights(),
            signal_probability(0), posterior(0), certainty(0), total_variation(), best_accuracy(), best_guesses(),
            blind_accuracy(), preview_merge(0, 0), sequence_total_variation(3), sequence_accuracy(3),
            sequence_posterior(0, 0), set_shares(1), best_detector(1, 4), widest_gap_set(), accuracy_for_prior(4, 5),
        ]
        told = [
            [0], [4], [4], [0, 1, 2], [2, 3, 1, 1, 3], [0, 1, 2], [0, 3, 4], [0], [0, 1, 2], [0, 3, 4], [2, 1, 0],
            [0, 1, 2], [0, 0, 1, 1, 2], [0, 11, 16], [0, 27, 32], [0, 9, 10], [0, 3, 4, 1, 4], [1, 3, 4], [1, 1, 2],
            [0, 4, 5],
        ]
        self.assertEqual(parted(answers(joined(asked * 3))), told * 3)
        # With a merge as each round's last call: the next round makes a new model.
        asked = asked[:-1] + [merge_signals(0, 0)]
        told = told[:-1] + [[0, 0, 1]]
        self.assertEqual(parted(answers(joined(asked * 3))), told * 3)

    def test_sixty_calls_of_the_longest_form(self):
        calls = [set_test_weights(*[GREATEST] * 8)] * 60
        self.assertEqual(answers(joined(calls)), [1, -11] * 60)

    def test_the_list_handed_in_is_not_changed(self):
        calls = Untouchable(joined(EVERY_CALL))
        before = joined(EVERY_CALL)
        answered = answers(calls)
        self.assertEqual(list(calls), before)
        self.assertEqual(answered, answers(before))

    def test_the_same_list_is_answered_alike_each_time(self):
        calls = joined(EVERY_CALL)
        first = answers(calls)
        self.assertEqual(answers(calls), first)
        self.assertEqual(answers(list(calls)), first)

    def test_nothing_is_kept_from_one_list_to_the_next(self):
        answers(joined(EVERY_CALL))
        self.assertEqual(answers(get_weights()), [1, -11])
        fresh = joined([create(3), get_weights(), set_prior(0, 1)])
        self.assertEqual(answers(fresh), [1, 0, 7, 3, 1, 1, 1, 1, 1, 1, 3, 0, 1, 2])

    def test_an_answer_that_is_changed_does_not_change_the_next(self):
        calls = joined(EVERY_CALL)
        first = answers(calls)
        kept = list(first)
        first.clear()
        self.assertEqual(answers(calls), kept)

    def test_only_whole_numbers_are_answered(self):
        for number in answers(joined(EVERY_CALL)):
            self.assertIs(type(number), int)
        self.assertIs(type(answers(joined(EVERY_CALL))), list)


if __name__ == "__main__":
    unittest.main()
