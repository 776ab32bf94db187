"""Operations by their names, for the tests: written as calls, and their answers taken apart."""

from deterrence.desk import answers

NUMBERS = {
    "create": 0,
    "set_test_weights": 1,
    "set_production_weights": 2,
    "set_prior": 3,
    "set_stakes": 4,
    "set_prices": 5,
    "cheating_value": 6,
    "cheating_signals": 7,
    "expected_profit": 8,
    "expected_profit_of": 9,
    "detection_probability": 10,
}

HUGE = 4294967295


def written(operations):
    """The list of calls: an operation is its name and its arguments, weights one behind another."""
    calls = []
    for name, *arguments in operations:
        calls += [NUMBERS[name], len(arguments), *arguments, 0]
    return calls


def taken_apart(answered):
    """One list for each answer; every number must be within the answer that counts it."""
    replies = []
    position = 0
    while position < len(answered):
        behind = position + 1 + answered[position]
        if answered[position] < 1 or behind > len(answered):
            raise AssertionError(f"no whole answer at {position}: {answered}")
        replies.append(answered[position + 1:behind])
        position = behind
    return replies


def run(*operations):
    """The answers of these operations on one new instance."""
    replies = taken_apart(answers(written(operations)))
    if len(replies) != len(operations):
        raise AssertionError(f"{len(operations)} calls, {len(replies)} answers")
    return replies


def last(*operations):
    return run(*operations)[-1]
