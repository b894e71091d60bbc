"""What the document says of each call, written a second time with fractions and in its own words."""

from fractions import Fraction
from itertools import product
from math import prod

from tests.calling import NO_MODEL, OUTSIDE_LIMITS, UNDEFINED, UNKNOWN_SIGNAL, fraction_answer


class Refused(Exception):
    def __init__(self, answer):
        super().__init__(answer)
        self.answer = answer


def require(condition, answer=OUTSIDE_LIMITS):
    if not condition:
        raise Refused(answer)


def variation(tests, productions):
    return sum((abs(test - production) for test, production in zip(tests, productions)), Fraction(0)) / 2


class Reference:
    """An instance: expected(place, numbers) gives what is to be answered of a call."""

    def __init__(self):
        self.tests = None
        self.productions = None
        self.prior = None

    def expected(self, place, numbers):
        names = [
            "create", "set_test_weights", "set_production_weights", "set_prior", "get_weights", "signal_probability",
            "posterior", "certainty", "total_variation", "best_accuracy", "best_guesses", "blind_accuracy",
            "merge_signals", "preview_merge", "sequence_total_variation", "sequence_accuracy", "sequence_posterior",
            "set_shares", "best_detector", "widest_gap_set", "accuracy_for_prior",
        ]
        lists = (1, 2, 12, 13, 16)
        try:
            require(place == 0 or self.tests is not None, NO_MODEL)
            chosen = getattr(self, names[place])
            return chosen(list(numbers)) if place in lists else chosen(*numbers)
        except Refused as refused:
            return refused.answer

    # What the terms say.

    def count(self):
        return len(self.tests)

    def test_shares(self):
        return [Fraction(weight, sum(self.tests)) for weight in self.tests]

    def production_shares(self):
        return [Fraction(weight, sum(self.productions)) for weight in self.productions]

    def joint_tests(self):
        return [Fraction(*self.prior) * share for share in self.test_shares()]

    def joint_productions(self):
        return [(1 - Fraction(*self.prior)) * share for share in self.production_shares()]

    def probability(self, signal):
        return self.joint_tests()[signal] + self.joint_productions()[signal]

    def variation(self):
        return variation(self.test_shares(), self.production_shares())

    def accuracy(self):
        return sum(max(joint) for joint in zip(self.joint_tests(), self.joint_productions()))

    def sequences(self, length):
        for signals in product(range(self.count()), repeat=length):
            yield self.sequence_shares(signals)

    def sequence_shares(self, signals):
        return (prod((self.test_shares()[signal] for signal in signals), start=Fraction(1)),
                prod((self.production_shares()[signal] for signal in signals), start=Fraction(1)))

    def shares_of_set(self, mask):
        signals = [signal for signal in range(self.count()) if mask & 2 ** signal]
        return (sum((self.test_shares()[signal] for signal in signals), Fraction(0)),
                sum((self.production_shares()[signal] for signal in signals), Fraction(0)))

    def all_sets(self):
        return [(mask, *self.shares_of_set(mask)) for mask in range(2 ** self.count())]

    def after_merge(self, mapping):
        merged = Reference()
        merged.prior = self.prior
        signals = range(self.count())
        merged.tests = [sum(self.tests[s] for s in signals if mapping[s] == t) for t in signals]
        merged.productions = [sum(self.productions[s] for s in signals if mapping[s] == t) for t in signals]
        return merged

    # The calls.

    def create(self, signal_count):
        require(1 <= signal_count <= 5)
        self.tests = [1] * signal_count
        self.productions = [1] * signal_count
        self.prior = (1, 2)
        return [0]

    def require_weights(self, weights):
        require(len(weights) == self.count() and all(weight <= 99 for weight in weights) and any(weights))

    def set_test_weights(self, weights):
        self.require_weights(weights)
        self.tests = weights
        return [sum(weights)]

    def set_production_weights(self, weights):
        self.require_weights(weights)
        self.productions = weights
        return [sum(weights)]

    def set_prior(self, num, den):
        require(1 <= den <= 99 and num <= den)
        answer = [0, *self.prior]
        self.prior = (num, den)
        return answer

    def get_weights(self):
        return [self.count(), *self.tests, *self.productions]

    def signal_probability(self, signal):
        require(signal < self.count(), UNKNOWN_SIGNAL)
        return fraction_answer(self.probability(signal))

    def posterior(self, signal):
        require(signal < self.count(), UNKNOWN_SIGNAL)
        require(self.probability(signal) != 0, UNDEFINED)
        return fraction_answer(self.joint_tests()[signal] / self.probability(signal))

    def certainty(self, signal):
        require(signal < self.count(), UNKNOWN_SIGNAL)
        require(self.probability(signal) != 0, UNDEFINED)
        if self.joint_tests()[signal] == 0:
            return [2]
        return [1] if self.joint_productions()[signal] == 0 else [0]

    def total_variation(self):
        return fraction_answer(self.variation())

    def best_accuracy(self):
        return fraction_answer(self.accuracy())

    def best_guesses(self):
        guesses = [0 if test < production else 1
                   for test, production in zip(self.joint_tests(), self.joint_productions())]
        return [self.count(), *guesses]

    def blind_accuracy(self):
        return fraction_answer(max(Fraction(*self.prior), 1 - Fraction(*self.prior)))

    def require_mapping(self, mapping):
        require(len(mapping) == self.count() and all(signal < self.count() for signal in mapping))

    def merge_signals(self, mapping):
        self.require_mapping(mapping)
        merged = self.after_merge(mapping)
        self.tests = merged.tests
        self.productions = merged.productions
        return fraction_answer(self.variation())

    def preview_merge(self, mapping):
        self.require_mapping(mapping)
        merged = self.after_merge(mapping)
        return fraction_answer(merged.variation(), merged.accuracy())

    def sequence_total_variation(self, length):
        require(length <= 3)
        return fraction_answer(variation(*zip(*self.sequences(length))))

    def sequence_accuracy(self, length):
        require(length <= 3)
        prior = Fraction(*self.prior)
        return fraction_answer(sum(max(prior * test, (1 - prior) * production)
                                   for test, production in self.sequences(length)))

    def sequence_posterior(self, signals):
        require(len(signals) <= 6 and all(signal < self.count() for signal in signals))
        test, production = self.sequence_shares(signals)
        a = Fraction(*self.prior) * test
        b = (1 - Fraction(*self.prior)) * production
        require(a + b != 0, UNDEFINED)
        return fraction_answer(a / (a + b))

    def set_shares(self, mask):
        require(mask < 2 ** self.count())
        return fraction_answer(*self.shares_of_set(mask))

    def best_detector(self, num, den):
        require(1 <= den <= 99 and num <= den)
        allowed = [(test, mask) for mask, test, production in self.all_sets() if production <= Fraction(num, den)]
        largest = max(test for test, mask in allowed)
        return [min(mask for test, mask in allowed if test == largest), *fraction_answer(largest)[1:]]

    def widest_gap_set(self):
        gaps = [(test - production, mask) for mask, test, production in self.all_sets()]
        largest = max(gap for gap, mask in gaps)
        return [min(mask for gap, mask in gaps if gap == largest), *fraction_answer(largest)[1:]]

    def accuracy_for_prior(self, num, den):
        require(1 <= den <= 99 and num <= den)
        changed = Reference()
        changed.tests, changed.productions, changed.prior = self.tests, self.productions, (num, den)
        return fraction_answer(changed.accuracy())
