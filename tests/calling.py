"""What the tests share: operations by their names, written as calls; answers taken apart; many settings."""

from fractions import Fraction
from typing import NamedTuple

from deterrence.desk import answers

NUMBERS = {
    "create": 0,
    "set_test_weights": 1,
    "set_production_weights": 2,
    "set_prior": 3,
    "set_stakes": 4,
    "set_prices": 5,
    "cheating_value": 6,
    "cheating_signals": 7,
    "expected_profit": 8,
    "expected_profit_of": 9,
    "detection_probability": 10,
    "harm_probability": 11,
    "total_cost": 12,
    "deterrent_prior_at": 13,
    "deterrent_prior": 14,
    "preview_merge": 15,
    "merge_signals": 16,
    "cheapest_prior": 17,
    "cheating_signals_for_prior": 18,
    "cheating_signals_for_stakes": 19,
    "get_settings": 20,
}

HUGE = 4294967295


def written(operations):
    """The list of calls: an operation is its name and its arguments, those of a list one behind another."""
    if not 1 <= len(operations) <= 60:
        raise AssertionError(f"{len(operations)} calls are not handed in")
    calls = []
    for name, *arguments in operations:
        calls += [NUMBERS[name], len(arguments), *arguments, 0]
    return calls


def taken_apart(answered):
    """One list for each answer; every number must be within the answer that counts it."""
    replies = []
    position = 0
    while position < len(answered):
        behind = position + 1 + answered[position]
        if answered[position] < 1 or behind > len(answered):
            raise AssertionError(f"no whole answer at {position}: {answered}")
        replies.append(answered[position + 1:behind])
        position = behind
    return replies


def run(*operations):
    """The answers of these operations on one new instance."""
    replies = taken_apart(answers(written(operations)))
    if len(replies) != len(operations):
        raise AssertionError(f"{len(operations)} calls, {len(replies)} answers")
    return replies


def last(*operations):
    return run(*operations)[-1]


def run_behind(made, operations):
    """The answers of operations that change nothing, each asked of the setting that `made` makes."""
    told = []
    room = 60 - len(made)
    for start in range(0, len(operations), room):
        told += run(*made, *operations[start:start + room])[len(made):]
    return told


def fractions(told):
    """The answered fractions behind a 0, which must be in lowest terms with positive denominators."""
    values = [Fraction(*told[place:place + 2]) for place in range(1, len(told), 2)]
    back = [part for value in values for part in (value.numerator, value.denominator)]
    if told[0] != 0 or back != told[1:]:
        raise AssertionError(told)
    return values


def fraction(told):
    """The one answered fraction."""
    value, = fractions(told)
    return value


class Case(NamedTuple):
    """A setting, as operations 1 to 5 are given it."""

    test_weights: tuple
    production_weights: tuple
    prior: tuple
    stakes: tuple
    prices: tuple


def made_of(case):
    """The operations that make this setting."""
    return [("create", len(case.test_weights)), ("set_test_weights", *case.test_weights),
            ("set_production_weights", *case.production_weights), ("set_prior", *case.prior),
            ("set_stakes", *case.stakes), ("set_prices", *case.prices)]


class Walk:
    """Numbers that are the same in each run."""

    def __init__(self):
        self.seed = 12345

    def below(self, limit):
        self.seed = (self.seed * 1103515245 + 12345) % 2147483648
        return self.seed // 65536 % limit

    def weights(self, count):
        """Small ones, so that shares are often 0 or equal, or any; never all 0."""
        limit = (2, 3, 6, 100)[self.below(4)]
        drawn = [self.below(limit) for _ in range(count)]
        if not any(drawn):
            drawn[self.below(count)] = 1
        return tuple(drawn)

    def amounts(self):
        """Two stakes or prices, of which one is often 0 and both are often small."""
        limit = (3, 12, 1000)[self.below(3)]
        return (self.below(limit), self.below(limit))

    def prior(self):
        den = (1, 2, 6, 99)[self.below(4)] - self.below(2)
        den = max(den, 1)
        return (self.below(den + 1), den)


def many_settings():
    """Settings of one to five signals."""
    walk = Walk()
    for count in range(1, 6):
        for _ in range(120):
            yield Case(walk.weights(count), walk.weights(count), walk.prior(), walk.amounts(), walk.amounts())
