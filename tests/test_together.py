"""Lists of calls of every kind in any order, against what the document says of each."""

import random
import unittest

from tests.calling import GREATEST, MODELS, ask, call, model_calls
from tests.reference import Reference

ODD_NUMBERS = (0, 1, 2, 3, 4, 5, 6, 31, 32, 98, 99, 100, 4294967294, GREATEST)
NO_NUMBERS = (4, 8, 9, 10, 11, 19)


def some_weights(chance, count):
    greatest = chance.choice((1, 3, 99, 99))
    return [chance.choice((0, chance.randint(0, greatest))) for signal in range(count)]


def some_prior(chance):
    den = chance.choice((1, 2, 99, chance.randint(1, 99)))
    return [chance.choice((0, den, chance.randint(0, den))), den]


def fitting_numbers(chance, place, count):
    """Numbers of a call that a model with this many signals mostly takes."""
    if place in NO_NUMBERS:
        return []
    if place == 0:
        return [chance.randint(1, 5)]
    if place in (1, 2):
        return some_weights(chance, count)
    if place in (3, 18, 20):
        return some_prior(chance)
    if place in (5, 6, 7):
        return [chance.randrange(count)]
    if place in (12, 13):
        return [chance.randrange(count) for signal in range(count)]
    if place in (14, 15):
        return [chance.randint(0, 3)]
    if place == 16:
        return [chance.randrange(count) for signal in range(chance.randint(0, 6))]
    return [chance.randrange(2 ** count)]


def some_numbers(chance, place, count):
    """Mostly fitting numbers; at times one of them, or how many there are, is odd."""
    numbers = fitting_numbers(chance, place, count)
    if numbers and chance.random() < 0.15:
        numbers[chance.randrange(len(numbers))] = chance.choice(ODD_NUMBERS)
    if place in (1, 2, 12, 13, 16) and chance.random() < 0.1:
        numbers = [chance.choice((0, 1, chance.randrange(count))) for step in range(chance.randint(0, 8))]
    return numbers


def some_calls(chance):
    """At most 60 calls, as (place, numbers): sometimes without a model at first, and create is rarer than the rest."""
    calls = []
    count = chance.randint(1, 5)
    if chance.random() < 0.9:
        calls.append((0, [count]))
    length = chance.randint(1, 60)
    while len(calls) < length:
        place = chance.choice([0] + list(range(1, 21)) * 3)
        numbers = some_numbers(chance, place, count)
        if place == 0 and 1 <= numbers[0] <= 5:
            count = numbers[0]
        calls.append((place, numbers))
    return calls


class Together(unittest.TestCase):
    def assert_as_told(self, calls):
        reference = Reference()
        expected = [reference.expected(place, numbers) for place, numbers in calls]
        self.assertEqual(ask(*[call(place, *numbers) for place, numbers in calls]), expected)

    def test_lists_of_calls_in_any_order(self):
        chance = random.Random(20)
        for step in range(300):
            calls = some_calls(chance)
            with self.subTest(calls=calls):
                self.assert_as_told(calls)

    def test_every_call_that_asks_on_every_model(self):
        for model in MODELS:
            count = len(model[0])
            calls = [(one[0], one[2:-1]) for one in model_calls(*model)]
            calls += [(place, []) for place in NO_NUMBERS]
            calls += [(place, [signal]) for place in (5, 6, 7) for signal in range(count)]
            calls += [(place, [length]) for place in (14, 15) for length in range(5)]
            calls += [(18, bound) for bound in ([0, 1], [1, 3], [1, 2], [98, 99], [1, 1])]
            calls += [(20, prior) for prior in ([0, 1], [1, 3], [1, 2], [98, 99], [99, 99])]
            calls += [(16, []), (16, [count - 1]), (16, [0] * 6), (19, [])]
            with self.subTest(model=model):
                self.assertLessEqual(len(calls), 60)
                self.assert_as_told(calls)

    def test_every_set_of_every_model(self):
        for model in MODELS:
            calls = [(one[0], one[2:-1]) for one in model_calls(*model)]
            calls += [(17, [mask]) for mask in range(2 ** len(model[0]) + 1)]
            with self.subTest(model=model):
                self.assert_as_told(calls)


if __name__ == "__main__":
    unittest.main()
