"""The form in which calls are handed in and answered."""

import unittest

from sessionsigns.model import answers
from tests.calling import (
    GREATEST, best_accuracy, best_guesses, certainty, create, get_weights, joined, parted, posterior,
    set_prior, set_production_weights, set_test_weights, signal_probability, total_variation,
)


class Untouchable(list):
    """A list that doesn't let itself be changed, not for a while either."""

    def refuse(self, *arguments, **keywords):
        raise AssertionError("the list handed in was changed")

    __setitem__ = __delitem__ = __iadd__ = __imul__ = refuse
    append = extend = insert = pop = remove = clear = reverse = sort = refuse


EXAMPLE = [
    create(2), set_test_weights(3, 1), set_production_weights(1, 3), total_variation(), best_accuracy(),
    posterior(0), posterior(2),
]
EVERY_CALL = [
    get_weights(), create(5), set_test_weights(99, 0, 3, 0, 1), set_production_weights(0, 5, 3, 0, 2),
    set_prior(2, 6), set_prior(3, 9), get_weights(), signal_probability(0), posterior(2), certainty(1), posterior(3),
    certainty(GREATEST), total_variation(), best_accuracy(), best_guesses(), create(6), set_prior(1, 100),
]


class Interface(unittest.TestCase):
    def test_the_example_number_by_number(self):
        self.assertEqual(answers(joined(EXAMPLE)), [
            1, 0,
            1, 4,
            1, 4,
            3, 0, 1, 2,
            3, 0, 3, 4,
            3, 0, 3, 4,
            1, -2,
        ])

    def test_the_calls_as_the_document_writes_them(self):
        calls = [0, 1, 2, 0, 1, 2, 3, 1, 0, 2, 2, 1, 3, 0, 3, 2, 1, 4, 0, 4, 0, 0, 10, 0, 0]
        self.assertEqual(answers(calls), [1, 0, 1, 4, 1, 4, 3, 0, 1, 2, 5, 2, 3, 1, 1, 3, 3, 2, 1, 0])

    def test_get_weights_and_best_guesses_have_their_count_among_the_numbers(self):
        answered = answers(joined([create(5), get_weights(), best_guesses()]))
        self.assertEqual(answered, [1, 0, 11, 5] + [1] * 10 + [6, 5] + [1] * 5)

    def test_a_refusal_is_its_code_alone(self):
        self.assertEqual(answers(get_weights()), [1, -11])
        self.assertEqual(answers(create(0)), [1, -22])
        self.assertEqual(answers(joined([create(1), posterior(1)])), [1, 0, 1, -2])
        self.assertEqual(answers(joined([create(2), set_test_weights(0, 1), set_prior(1, 1), posterior(0)])),
                         [1, 0, 1, 1, 3, 0, 1, 2, 1, -33])

    def test_one_call(self):
        self.assertEqual(answers(create(1)), [1, 0])

    def test_sixty_calls(self):
        calls = [create(5)]
        for weight in range(59):
            calls.append(set_test_weights(weight, 1, 0, 0, 99))
        answered = parted(answers(joined(calls)))
        self.assertEqual(answered, [[0]] + [[weight + 100] for weight in range(59)])

    def test_sixty_calls_of_the_longest_form(self):
        calls = [set_test_weights(*[GREATEST] * 8)] * 60
        self.assertEqual(answers(joined(calls)), [1, -11] * 60)

    def test_the_list_handed_in_is_not_changed(self):
        calls = Untouchable(joined(EVERY_CALL))
        before = joined(EVERY_CALL)
        answered = answers(calls)
        self.assertEqual(list(calls), before)
        self.assertEqual(answered, answers(before))

    def test_the_same_list_is_answered_alike_each_time(self):
        calls = joined(EVERY_CALL)
        first = answers(calls)
        self.assertEqual(answers(calls), first)
        self.assertEqual(answers(list(calls)), first)

    def test_nothing_is_kept_from_one_list_to_the_next(self):
        answers(joined(EVERY_CALL))
        self.assertEqual(answers(get_weights()), [1, -11])
        fresh = joined([create(3), get_weights(), set_prior(0, 1)])
        self.assertEqual(answers(fresh), [1, 0, 7, 3, 1, 1, 1, 1, 1, 1, 3, 0, 1, 2])

    def test_an_answer_that_is_changed_does_not_change_the_next(self):
        calls = joined(EVERY_CALL)
        first = answers(calls)
        kept = list(first)
        first.clear()
        self.assertEqual(answers(calls), kept)

    def test_only_whole_numbers_are_answered(self):
        for number in answers(joined(EVERY_CALL)):
            self.assertIs(type(number), int)
        self.assertIs(type(answers(joined(EVERY_CALL))), list)


if __name__ == "__main__":
    unittest.main()
