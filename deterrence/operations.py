"""The operations of the document, each by its name there.

Each but create takes the setting and the call's numbers, and gives back the numbers of its
answer. It checks all its arguments before it changes the setting.
"""

from deterrence.agent import joint_production_at, joint_test_at, paying_signals, profit_at
from deterrence.limits import (
    check_amounts,
    check_mapping,
    check_prior,
    check_signal,
    check_signal_count,
    check_signal_set,
    check_weights,
)
from deterrence.overseer import cheapest_with_cost, cost_of, prior_against, prior_against_all
from deterrence.refusals import NoDeterrentPrior
from deterrence.settings import Setting, with_merge, with_prior, with_stakes


def create(signal_count):
    """The new setting, for there may be none yet to change."""
    check_signal_count(signal_count)
    return Setting(signal_count)


def set_test_weights(setting, weights):
    check_weights(weights, setting.signal_count)
    setting.test_weights = list(weights)
    return [sum(weights)]


def set_production_weights(setting, weights):
    check_weights(weights, setting.signal_count)
    setting.production_weights = list(weights)
    return [sum(weights)]


def set_prior(setting, numbers):
    check_prior(numbers[0], numbers[1])
    answer = [0, setting.prior_num, setting.prior_den]
    setting.prior_num = numbers[0]
    setting.prior_den = numbers[1]
    return answer


def set_stakes(setting, numbers):
    check_amounts(numbers[0], numbers[1])
    answer = [0, setting.gain, setting.loss]
    setting.gain = numbers[0]
    setting.loss = numbers[1]
    return answer


def set_prices(setting, numbers):
    check_amounts(numbers[0], numbers[1])
    answer = [0, setting.harm_price, setting.test_price]
    setting.harm_price = numbers[0]
    setting.test_price = numbers[1]
    return answer


def cheating_value(setting, numbers):
    check_signal(numbers[0], setting.signal_count)
    return [0] + profit_at(setting, [numbers[0]])


def counted_signals(setting):
    """How many signals cheating pays at, then these."""
    signals = paying_signals(setting)
    return [len(signals)] + signals


def cheating_signals(setting, numbers):
    return counted_signals(setting)


def expected_profit(setting, numbers):
    return [0] + profit_at(setting, paying_signals(setting))


def expected_profit_of(setting, numbers):
    mask = numbers[0]
    check_signal_set(mask, setting.signal_count)
    members = [signal for signal in range(setting.signal_count) if (mask >> signal) & 1 == 1]
    return [0] + profit_at(setting, members)


def detection_probability(setting, numbers):
    return [0] + joint_test_at(setting, paying_signals(setting))


def harm_probability(setting, numbers):
    return [0] + joint_production_at(setting, paying_signals(setting))


def total_cost(setting, numbers):
    return [0] + cost_of(setting)


def existing(prior):
    """The prior, where it exists."""
    if prior is None:
        raise NoDeterrentPrior()
    return prior


def deterrent_prior_at(setting, numbers):
    check_signal(numbers[0], setting.signal_count)
    return [0] + existing(prior_against(setting, numbers[0]))


def deterrent_prior(setting, numbers):
    return [0] + existing(prior_against_all(setting))


def preview_merge(setting, mapping):
    check_mapping(mapping, setting.signal_count)
    merged = with_merge(setting, mapping)
    return [0] + existing(prior_against_all(merged)) + profit_at(merged, paying_signals(merged))


def merge_signals(setting, mapping):
    check_mapping(mapping, setting.signal_count)
    setting.merge(mapping)
    return counted_signals(setting)


def cheapest_prior(setting, numbers):
    cheapest = cheapest_with_cost(setting)
    return [0] + cheapest[0] + cheapest[1]


def cheating_signals_for_prior(setting, numbers):
    check_prior(numbers[0], numbers[1])
    return counted_signals(with_prior(setting, numbers[0], numbers[1]))


def cheating_signals_for_stakes(setting, numbers):
    check_amounts(numbers[0], numbers[1])
    return counted_signals(with_stakes(setting, numbers[0], numbers[1]))


def get_settings(setting, numbers):
    answer = [setting.signal_count, setting.prior_num, setting.prior_den, setting.gain, setting.loss]
    return answer + [setting.harm_price, setting.test_price] + setting.test_weights + setting.production_weights


# By their numbers in the document; create, number 0, needs no setting and stands by itself.
OPERATIONS = {
    1: set_test_weights,
    2: set_production_weights,
    3: set_prior,
    4: set_stakes,
    5: set_prices,
    6: cheating_value,
    7: cheating_signals,
    8: expected_profit,
    9: expected_profit_of,
    10: detection_probability,
    11: harm_probability,
    12: total_cost,
    13: deterrent_prior_at,
    14: deterrent_prior,
    15: preview_merge,
    16: merge_signals,
    17: cheapest_prior,
    18: cheating_signals_for_prior,
    19: cheating_signals_for_stakes,
    20: get_settings,
}


def operate(setting, number, numbers):
    return OPERATIONS[number](setting, numbers)
