"""Sets of signals, each a bit mask: signal s is bit s."""

from sessionsigns.chances import production_share_parts
from sessionsigns.chances import share_whole
from sessionsigns.chances import test_share_parts
from sessionsigns.ratios import lowest_terms


def set_count(model):
    """Give how many sets there are: the masks from 0 up to this number, without it."""
    return 1 << model.signal_count


def set_part(parts, mask):
    """Give the sum of the parts of the set's signals."""
    total = 0
    for signal, part in enumerate(parts):
        if (mask >> signal) & 1 == 1:
            total += part
    return total


def set_test_fraction(model, mask):
    """Give the test share of the set."""
    return lowest_terms(set_part(test_share_parts(model), mask), share_whole(model))


def set_production_fraction(model, mask):
    """Give the production share of the set."""
    return lowest_terms(set_part(production_share_parts(model), mask), share_whole(model))


def gap_parts(model):
    """Give the share gap of every signal, over share_whole; that of a set is their sum."""
    gaps = []
    for test_part, production_part in zip(test_share_parts(model), production_share_parts(model)):
        gaps.append(test_part - production_part)
    return gaps


def set_gap_fraction(model, mask):
    """Give the share gap of the set."""
    return lowest_terms(set_part(gap_parts(model), mask), share_whole(model))


def widest_mask(model):
    """Give the set with the largest share gap."""
    gaps = gap_parts(model)
    best = 0
    for mask in range(set_count(model)):
        # Only a larger gap replaces the best one, so that ties go to the smallest mask.
        if set_part(gaps, mask) > set_part(gaps, best):
            best = mask
    return best


def detector_mask(model, num, den):
    """Give the set with the largest test share whose production share is at most num / den."""
    tests = test_share_parts(model)
    productions = production_share_parts(model)
    bound = num * share_whole(model)
    # The empty set respects every bound; ties go to the smallest mask.
    best = 0
    for mask in range(set_count(model)):
        if set_part(productions, mask) * den <= bound and set_part(tests, mask) > set_part(tests, best):
            best = mask
    return best
