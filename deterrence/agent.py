"""What cheating is worth at the signals of a setting, and what the rational agent does there.

All cheating values of one setting are counted in parts of one denominator, so that they
are compared and added as whole numbers.
"""

from deterrence.ratio import lowest_terms


def value_denominator(setting):
    return setting.prior_den * sum(setting.test_weights) * sum(setting.production_weights)


def value_numerator(setting, signal):
    """The cheating value of the signal, in parts of value_denominator."""
    production_num = setting.prior_den - setting.prior_num
    earned = setting.gain * production_num * setting.production_weights[signal] * sum(setting.test_weights)
    lost = setting.loss * setting.prior_num * setting.test_weights[signal] * sum(setting.production_weights)
    return earned - lost


def paying_signals(setting):
    """The signals at which the rational agent cheats, in increasing order."""
    return [signal for signal in range(setting.signal_count) if value_numerator(setting, signal) > 0]


def profit_at(setting, signals):
    """The sum of the cheating values of these signals, as a fraction."""
    top = sum([value_numerator(setting, signal) for signal in signals])
    return lowest_terms(top, value_denominator(setting))


def joint_test_at(setting, signals):
    """The sum of joint_test over these signals, as a fraction."""
    weight = sum([setting.test_weights[signal] for signal in signals])
    return lowest_terms(setting.prior_num * weight, setting.prior_den * sum(setting.test_weights))


def joint_production_at(setting, signals):
    """The sum of joint_production over these signals, as a fraction."""
    weight = sum([setting.production_weights[signal] for signal in signals])
    production_num = setting.prior_den - setting.prior_num
    return lowest_terms(production_num * weight, setting.prior_den * sum(setting.production_weights))
