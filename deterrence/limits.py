"""The limits of the arguments: each check raises a refusal or does nothing."""

from deterrence.refusals import NoSuchSignal, OutsideLimits

MOST_SIGNALS = 5
LARGEST_WEIGHT = 99
LARGEST_PRIOR_DEN = 99
LARGEST_AMOUNT = 999


def check_signal_count(signal_count):
    if signal_count < 1 or signal_count > MOST_SIGNALS:
        raise OutsideLimits()


def check_signal(signal, signal_count):
    if signal >= signal_count:
        raise NoSuchSignal()


def check_signal_set(mask, signal_count):
    if mask >= 1 << signal_count:
        raise OutsideLimits()


def check_mapping(mapping, signal_count):
    if len(mapping) != signal_count or max(mapping) >= signal_count:
        raise OutsideLimits()


def check_weights(weights, signal_count):
    if len(weights) != signal_count:
        raise OutsideLimits()
    # All weights 0 would leave the shares without a meaning: they are parts of the sum.
    if max(weights) > LARGEST_WEIGHT or max(weights) == 0:
        raise OutsideLimits()


def check_prior(num, den):
    if den < 1 or den > LARGEST_PRIOR_DEN or num > den:
        raise OutsideLimits()


def check_amounts(first, second):
    """Stakes and prices come in pairs, and have one limit."""
    if first > LARGEST_AMOUNT or second > LARGEST_AMOUNT:
        raise OutsideLimits()
