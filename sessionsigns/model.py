"""The interface: a list of calls on a new instance, and what is answered of each."""

from sessionsigns.errors import NoModel
from sessionsigns.errors import OutsideLimits
from sessionsigns.errors import UndefinedPosterior
from sessionsigns.errors import UnknownSignal
from sessionsigns.operations import perform
from sessionsigns.state import Instance


def split_calls(calls):
    """Part the list into calls, each as its number and the list of its numbers."""
    parted = []
    start = 0
    while start < len(calls):
        first = start + 2
        end = first + calls[start + 1]
        parted.append((calls[start], calls[first:end]))
        # Behind the numbers stands how many lists the call has, which is always 0.
        start = end + 1
    return parted


def answer_call(instance, place, arguments):
    """Give the numbers that are answered of one call: of a refused one its code alone."""
    try:
        return perform(instance, place, arguments)
    except NoModel:
        return [-11]
    except UnknownSignal:
        return [-2]
    except OutsideLimits:
        return [-22]
    except UndefinedPosterior:
        return [-33]


def answers(calls):
    """Make the calls on a new instance and give, for each, how many numbers are answered, then these."""
    instance = Instance()
    answered = []
    for place, arguments in split_calls(calls):
        numbers = answer_call(instance, place, arguments)
        answered.append(len(numbers))
        answered.extend(numbers)
    return answered
