"""The refusals of a call, one class for each error code."""


class NoModel(Exception):
    """There is no model."""


class UnknownSignal(Exception):
    """The signal doesn't exist."""


class OutsideLimits(Exception):
    """An argument is outside its limits."""


class UndefinedPosterior(Exception):
    """The posterior is undefined because the signals have probability 0."""
