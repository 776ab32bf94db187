"""The refusals of an operation, one class for each error code of the document."""


class NoSetting(Exception):
    """There is no setting."""


class NoSuchSignal(Exception):
    """The signal doesn't exist."""


class OutsideLimits(Exception):
    """An argument is outside its limits."""


class NoDeterrentPrior(Exception):
    """The deterrent prior doesn't exist."""
