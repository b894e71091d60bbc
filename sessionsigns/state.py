"""What an instance keeps from one call to the next."""


class Model:
    """The weights of the signals in both kinds of session, and the prior as it was set."""

    def __init__(self, signal_count):
        self.signal_count = signal_count
        self.test_weights = [1] * signal_count
        self.production_weights = [1] * signal_count
        self.prior_num = 1
        self.prior_den = 2


class Instance:
    """The object that the calls of one list are made on."""

    def __init__(self):
        self.model = None
