"""The operations of the document, each by its name there.

Each but create takes the setting and the call's numbers, and gives back the numbers of its
answer. It checks all its arguments before it changes the setting.
"""

from deterrence.agent import paying_signals, profit_at, joint_test_at
from deterrence.limits import (
    check_amounts,
    check_prior,
    check_signal,
    check_signal_count,
    check_signal_set,
    check_weights,
)
from deterrence.settings import Setting


def create(signal_count):
    """The new setting, for there may be none yet to change."""
    check_signal_count(signal_count)
    return Setting(signal_count)


def set_test_weights(setting, weights):
    check_weights(weights, setting.signal_count)
    setting.test_weights = list(weights)
    return [sum(weights)]


def set_production_weights(setting, weights):
    check_weights(weights, setting.signal_count)
    setting.production_weights = list(weights)
    return [sum(weights)]


def set_prior(setting, numbers):
    check_prior(numbers[0], numbers[1])
    answer = [0, setting.prior_num, setting.prior_den]
    setting.prior_num = numbers[0]
    setting.prior_den = numbers[1]
    return answer


def set_stakes(setting, numbers):
    check_amounts(numbers[0], numbers[1])
    answer = [0, setting.gain, setting.loss]
    setting.gain = numbers[0]
    setting.loss = numbers[1]
    return answer


def set_prices(setting, numbers):
    check_amounts(numbers[0], numbers[1])
    answer = [0, setting.harm_price, setting.test_price]
    setting.harm_price = numbers[0]
    setting.test_price = numbers[1]
    return answer


def cheating_value(setting, numbers):
    check_signal(numbers[0], setting.signal_count)
    return [0] + profit_at(setting, [numbers[0]])


def cheating_signals(setting, numbers):
    signals = paying_signals(setting)
    return [len(signals)] + signals


def expected_profit(setting, numbers):
    return [0] + profit_at(setting, paying_signals(setting))


def expected_profit_of(setting, numbers):
    mask = numbers[0]
    check_signal_set(mask, setting.signal_count)
    members = [signal for signal in range(setting.signal_count) if (mask >> signal) & 1 == 1]
    return [0] + profit_at(setting, members)


def detection_probability(setting, numbers):
    return [0] + joint_test_at(setting, paying_signals(setting))


# By their numbers in the document; create, number 0, needs no setting and stands by itself.
OPERATIONS = {
    1: set_test_weights,
    2: set_production_weights,
    3: set_prior,
    4: set_stakes,
    5: set_prices,
    6: cheating_value,
    7: cheating_signals,
    8: expected_profit,
    9: expected_profit_of,
    10: detection_probability,
}


def operate(setting, number, numbers):
    return OPERATIONS[number](setting, numbers)
