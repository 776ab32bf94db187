"""The one way in: calls on one new instance, and their answers."""

from deterrence.operations import create, operate
from deterrence.refusals import NoDeterrentPrior, NoSetting, NoSuchSignal, OutsideLimits


class Instance:
    """The object that is called; it has no setting until a create succeeds."""

    def __init__(self):
        self.setting = None

    def perform(self, number, numbers):
        """The operation's answer; where it is refused, the setting stays as it was."""
        if number == 0:
            self.setting = create(numbers[0])
            return [0]
        if self.setting is None:
            raise NoSetting()
        return operate(self.setting, number, numbers)

    def answer(self, number, numbers):
        """The operation's answer, or the error code alone."""
        try:
            return self.perform(number, numbers)
        except NoSetting:
            return [-11]
        except NoSuchSignal:
            return [-2]
        except OutsideLimits:
            return [-22]
        except NoDeterrentPrior:
            return [-33]


def answers(calls):
    """For each call, in order: how many numbers it answers, then these."""
    instance = Instance()
    answered = []
    position = 0
    while position < len(calls):
        first = position + 2
        behind = first + calls[position + 1]
        reply = instance.answer(calls[position], calls[first:behind])
        answered.append(len(reply))
        answered.extend(reply)
        # Behind a call's numbers stands how many lists it has, which is always 0.
        position = behind + 1
    return answered
