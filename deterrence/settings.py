"""The setting of an instance, and copies of it that tell what would be if something in it changed."""


class Setting:
    """The fields that the document names; what puts a value there has checked it before."""

    def __init__(self, signal_count):
        self.signal_count = signal_count
        self.test_weights = [1] * signal_count
        self.production_weights = [1] * signal_count
        self.prior_num = 1
        self.prior_den = 2
        self.gain = 1
        self.loss = 1
        self.harm_price = 1
        self.test_price = 1

    def duplicate(self):
        """A setting with the same fields that shares no list with this one."""
        other = Setting(self.signal_count)
        other.test_weights = list(self.test_weights)
        other.production_weights = list(self.production_weights)
        other.prior_num = self.prior_num
        other.prior_den = self.prior_den
        other.gain = self.gain
        other.loss = self.loss
        other.harm_price = self.harm_price
        other.test_price = self.test_price
        return other

    def merge(self, mapping):
        self.test_weights = merged_weights(self.test_weights, mapping)
        self.production_weights = merged_weights(self.production_weights, mapping)


def merged_weights(weights, mapping):
    """The weights after each signal is seen as the one that mapping has in its place."""
    merged = [0] * len(weights)
    for signal, seen_as in enumerate(mapping):
        merged[seen_as] += weights[signal]
    return merged


def with_prior(setting, num, den):
    other = setting.duplicate()
    other.prior_num = num
    other.prior_den = den
    return other


def with_stakes(setting, gain, loss):
    other = setting.duplicate()
    other.gain = gain
    other.loss = loss
    return other


def with_merge(setting, mapping):
    other = setting.duplicate()
    other.merge(mapping)
    return other
