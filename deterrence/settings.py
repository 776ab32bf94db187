"""The setting of an instance."""


class Setting:
    """The fields that the document names; what puts a value there has checked it before."""

    def __init__(self, signal_count):
        self.signal_count = signal_count
        self.test_weights = [1] * signal_count
        self.production_weights = [1] * signal_count
        self.prior_num = 1
        self.prior_den = 2
        self.gain = 1
        self.loss = 1
        self.harm_price = 1
        self.test_price = 1
