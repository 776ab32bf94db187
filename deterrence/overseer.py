"""What testing costs the overseer, and the priors at which cheating doesn't pay any more.

A prior and a cost are fractions, as ratio.py has them; a prior that doesn't exist is None.
"""

from deterrence.agent import joint_production_at, paying_signals
from deterrence.ratio import is_less, lowest_terms
from deterrence.settings import with_prior


def cost_of(setting):
    """The total cost, as a fraction."""
    harm = joint_production_at(setting, paying_signals(setting))
    tested = setting.test_price * setting.prior_num * harm[1]
    harmed = setting.harm_price * harm[0] * setting.prior_den
    return lowest_terms(tested + harmed, setting.prior_den * harm[1])


def prior_against(setting, signal):
    """The deterrent prior of the signal."""
    # g and l of the document, both times the two sums of weights: g / (g + l) stays the same.
    earned = setting.gain * setting.production_weights[signal] * sum(setting.test_weights)
    lost = setting.loss * setting.test_weights[signal] * sum(setting.production_weights)
    if earned == 0:
        return [0, 1]
    if lost == 0:
        return None
    return lowest_terms(earned, earned + lost)


def prior_against_all(setting):
    """The deterrent prior: the largest of all signals."""
    largest = [0, 1]
    for signal in range(setting.signal_count):
        prior = prior_against(setting, signal)
        if prior is None:
            return None
        if is_less(largest, prior):
            largest = prior
    return largest


def priors_to_compare(setting):
    """The priors of which the cheapest is chosen, in no order."""
    against = [prior_against(setting, signal) for signal in range(setting.signal_count)]
    return [[0, 1], [1, 1]] + [prior for prior in against if prior is not None]


def cheapest_with_cost(setting):
    """The cheapest prior, and the total cost as it would be with it."""
    cheapest = None
    lowest = None
    for prior in priors_to_compare(setting):
        cost = cost_of(with_prior(setting, prior[0], prior[1]))
        # In lowest terms, equal costs are written the same.
        if cheapest is None or is_less(cost, lowest) or (cost == lowest and is_less(prior, cheapest)):
            cheapest = prior
            lowest = cost
    return [cheapest, lowest]
