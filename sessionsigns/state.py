"""What an instance keeps from one call to the next."""


class Model:
    """The weights of the signals in both kinds of session, and the prior as it was set."""

    def __init__(self, signal_count):
        self.signal_count = signal_count
        self.test_weights = [1] * signal_count
        self.production_weights = [1] * signal_count
        self.prior_num = 1
        self.prior_den = 2


def copy_model(model):
    """Give a model of its own with the same fields, on which a change can be tried."""
    copied = Model(model.signal_count)
    copied.test_weights = list(model.test_weights)
    copied.production_weights = list(model.production_weights)
    copied.prior_num = model.prior_num
    copied.prior_den = model.prior_den
    return copied


class Instance:
    """The object that the calls of one list are made on."""

    def __init__(self):
        self.model = None
