"""Points 1 to 6, and operations 11 to 19, over many settings, reckoned a second time with exact fractions."""

import unittest
from fractions import Fraction

from calling import Walk, fraction, fractions, last, made_of, many_settings, run, run_behind


class Reckoned:
    """The terms of the document in its own words; a deterrent prior that doesn't exist is None."""

    def __init__(self, case):
        self.signals = range(len(case.test_weights))
        self.test_share = [Fraction(weight, sum(case.test_weights)) for weight in case.test_weights]
        self.production_share = [Fraction(weight, sum(case.production_weights)) for weight in case.production_weights]
        self.gain, self.loss = case.stakes
        self.harm_price, self.test_price = case.prices

    def value(self, signal, prior):
        return self.gain * (1 - prior) * self.production_share[signal] - self.loss * prior * self.test_share[signal]

    def paying(self, prior):
        return [signal for signal in self.signals if self.value(signal, prior) > 0]

    def profit(self, prior):
        return sum((self.value(signal, prior) for signal in self.paying(prior)), Fraction(0))

    def harm(self, prior):
        return sum(((1 - prior) * self.production_share[signal] for signal in self.paying(prior)), Fraction(0))

    def cost(self, prior):
        return self.test_price * prior + self.harm_price * self.harm(prior)

    def deterrent_at(self, signal):
        g = self.gain * self.production_share[signal]
        l = self.loss * self.test_share[signal]
        if g == 0:
            return Fraction(0)
        if l == 0:
            return None
        return g / (g + l)

    def deterrent(self):
        priors = [self.deterrent_at(signal) for signal in self.signals]
        return None if None in priors else max(priors)

    def compared(self):
        priors = [self.deterrent_at(signal) for signal in self.signals]
        return {Fraction(0), Fraction(1)} | {prior for prior in priors if prior is not None}

    def cheapest(self):
        return min(self.compared(), key=lambda prior: (self.cost(prior), prior))


def merged(case, mapping):
    """The setting after the merge."""
    def seen(weights):
        return tuple(sum(weight for weight, target in zip(weights, mapping) if target == signal)
                     for signal in range(len(weights)))
    return case._replace(test_weights=seen(case.test_weights), production_weights=seen(case.production_weights))


def counted(signals):
    return [len(signals), *signals]


def answered(values):
    """A 0 and these fractions, or -33 where one of them doesn't exist."""
    if None in values:
        return [-33]
    return [0] + [part for value in values for part in (value.numerator, value.denominator)]


def all_mappings(count):
    """Each mapping of so many signals."""
    mappings = [()]
    for _ in range(count):
        mappings = [mapping + (target,) for mapping in mappings for target in range(count)]
    return mappings


def some_mappings(count, walk):
    """All of up to three signals, and a hundred of more."""
    mappings = all_mappings(count)
    return mappings if count <= 3 else [mappings[walk.below(len(mappings))] for _ in range(100)]


def traits(case):
    """What the document tells apart, as this setting has it."""
    reckoned = Reckoned(case)
    prior = Fraction(*case.prior)
    cheapest = reckoned.cheapest()
    costs = [reckoned.cost(other) for other in reckoned.compared()]
    below_1 = sorted(reckoned.compared() - {1})
    places = [name for name, place in (("0", 0), ("1", 1), ("the largest", below_1[-1])) if cheapest == place]
    return {
        ("a prior of 0", prior == 0),
        ("a prior of 1", prior == 1),
        ("a value of 0", 0 in [reckoned.value(signal, prior) for signal in reckoned.signals]),
        ("a deterrent prior", reckoned.deterrent() is not None),
        ("no gain, no loss", tuple(amount == 0 for amount in case.stakes)),
        ("no price of harm, of tests", tuple(amount == 0 for amount in case.prices)),
        ("cheapest at", (places + ["another deterrent prior"])[0]),
        ("a tie at", cheapest > 0, costs.count(min(costs)) > 1),
    }


class TheManySettings(unittest.TestCase):
    def test_they_hold_what_the_document_tells_apart(self):
        found = set()
        for case in many_settings():
            found |= traits(case)
        both = (False, True)
        wanted = {(name, answer) for answer in both for name in
                  ("a prior of 0", "a prior of 1", "a value of 0", "a deterrent prior")}
        wanted |= {(name, (first, second)) for first in both for second in both for name in
                   ("no gain, no loss", "no price of harm, of tests")}
        wanted |= {("cheapest at", place) for place in ("0", "1", "the largest", "another deterrent prior")}
        wanted |= {("a tie at", first, second) for first in both for second in both}
        self.assertEqual(found, wanted)


class BesideThePlainWords(unittest.TestCase):
    def test_operations_11_to_14_and_17(self):
        for case in many_settings():
            with self.subTest(case):
                reckoned = Reckoned(case)
                prior = Fraction(*case.prior)
                told = run(*made_of(case), ("harm_probability",), ("total_cost",), ("deterrent_prior",),
                           ("cheapest_prior",), *[("deterrent_prior_at", signal) for signal in reckoned.signals])[6:]
                cheapest = reckoned.cheapest()
                self.assertEqual(told[0], answered([reckoned.harm(prior)]))
                self.assertEqual(told[1], answered([reckoned.cost(prior)]))
                self.assertEqual(told[2], answered([reckoned.deterrent()]))
                self.assertEqual(told[3], answered([cheapest, reckoned.cost(cheapest)]))
                self.assertEqual(told[4:], [answered([reckoned.deterrent_at(signal)]) for signal in reckoned.signals])

    def test_operations_15_and_16(self):
        walk = Walk()
        for case in list(many_settings())[::5]:
            prior = Fraction(*case.prior)
            mappings = some_mappings(len(case.test_weights), walk)
            previews = run_behind(made_of(case), [("preview_merge", *mapping) for mapping in mappings])
            for mapping, preview in zip(mappings, previews):
                with self.subTest(case=case, mapping=mapping):
                    after = merged(case, mapping)
                    reckoned = Reckoned(after)
                    told = run(*made_of(case), ("merge_signals", *mapping), ("get_settings",), ("deterrent_prior",),
                               ("expected_profit",), ("total_cost",), ("cheapest_prior",))[6:]
                    cheapest = reckoned.cheapest()
                    self.assertEqual(preview, answered([reckoned.deterrent(), reckoned.profit(prior)]))
                    self.assertEqual(told, [
                        counted(reckoned.paying(prior)),
                        [len(mapping), *case.prior, *case.stakes, *case.prices, *after.test_weights,
                         *after.production_weights],
                        answered([reckoned.deterrent()]),
                        answered([reckoned.profit(prior)]),
                        answered([reckoned.cost(prior)]),
                        answered([cheapest, reckoned.cost(cheapest)]),
                    ])

    def test_operations_18_and_19(self):
        walk = Walk()
        for case in many_settings():
            with self.subTest(case):
                prior = walk.prior()
                stakes = walk.amounts()
                told = run(*made_of(case), ("cheating_signals_for_prior", *prior),
                           ("cheating_signals_for_stakes", *stakes), ("get_settings",))[6:]
                self.assertEqual(told, [
                    counted(Reckoned(case).paying(Fraction(*prior))),
                    counted(Reckoned(case._replace(stakes=stakes)).paying(Fraction(*case.prior))),
                    [len(case.test_weights), *case.prior, *case.stakes, *case.prices, *case.test_weights,
                     *case.production_weights],
                ])


class Requirements(unittest.TestCase):
    def test_1_cheating_pays_nowhere_from_the_deterrent_prior_on_and_only_from_there(self):
        priors = sorted({Fraction(num, den) for den in (1, 7, 20) for num in range(den + 1)})
        for case in many_settings():
            deterrent = last(*made_of(case), ("deterrent_prior",))
            if deterrent == [-33]:
                continue
            least = fraction(deterrent)
            # The deterrent prior itself can be asked for where its denominator can be set.
            asked = priors + [least] if least.denominator < 100 else priors
            told = run_behind(made_of(case), [("cheating_signals_for_prior", prior.numerator, prior.denominator)
                                              for prior in asked])
            for prior, signals in zip(asked, told):
                with self.subTest(case=case, prior=prior):
                    self.assertEqual(signals == [0], prior >= least)

    def test_1_of_each_signal(self):
        for case in many_settings():
            for signal in range(len(case.test_weights)):
                deterrent = last(*made_of(case), ("deterrent_prior_at", signal))
                told = run_behind(made_of(case), [("cheating_signals_for_prior", num, 40) for num in range(41)])
                for num, signals in enumerate(told):
                    with self.subTest(case=case, signal=signal, num=num):
                        least = 1 if deterrent == [-33] else fraction(deterrent)
                        self.assertEqual(signal in signals[1:], Fraction(num, 40) < least)

    def test_2_a_signal_that_no_test_shows(self):
        tried = 0
        for case in many_settings():
            gain = case.stakes[0]
            hidden = [signal for signal, shares in enumerate(zip(case.test_weights, case.production_weights))
                      if shares[0] == 0 and shares[1] > 0]
            if gain == 0 or not hidden:
                continue
            tried += 1
            with self.subTest(case):
                priors = [(0, 1), (1, 2), (97, 98), (98, 99), (1, 1)]
                told = run(*made_of(case), ("deterrent_prior",),
                           *[("cheating_signals_for_prior", *prior) for prior in priors])[6:]
                self.assertEqual(told[0], [-33])
                for signals in told[1:-1]:
                    self.assertLessEqual(set(hidden), set(signals[1:]))
                self.assertEqual(told[-1], [0])
        self.assertGreater(tried, 50)

    def test_3_merging_helps_the_overseer(self):
        walk = Walk()
        for case in list(many_settings())[::3]:
            before = run(*made_of(case), ("deterrent_prior",), ("expected_profit",))[6:]
            mappings = some_mappings(len(case.test_weights), walk)
            told = run_behind(made_of(case), [("preview_merge", *mapping) for mapping in mappings])
            for mapping, preview in zip(mappings, told):
                with self.subTest(case=case, mapping=mapping):
                    if before[0] != [-33]:
                        self.assertNotEqual(preview, [-33])
                    if preview != [-33]:
                        prior, profit = fractions(preview)
                        self.assertLessEqual(profit, fraction(before[1]))
                        if before[0] != [-33]:
                            self.assertLessEqual(prior, fraction(before[0]))

    def test_3_also_where_there_is_no_deterrent_prior_afterwards(self):
        walk = Walk()
        for case in list(many_settings())[::3]:
            mappings = all_mappings(len(case.test_weights))
            for _ in range(10):
                mapping = mappings[walk.below(len(mappings))]
                with self.subTest(case=case, mapping=mapping):
                    told = run(*made_of(case), ("expected_profit",), ("merge_signals", *mapping),
                               ("expected_profit",))[6:]
                    self.assertLessEqual(fraction(told[2]), fraction(told[0]))

    def test_4_no_prior_costs_less_than_the_cheapest(self):
        for case in many_settings():
            priors = [(num, 13) for num in range(14)] + [(1, 99), (98, 99), (1, 2), case.prior]
            steps = []
            for prior in priors:
                steps += [("set_prior", *prior), ("total_cost",)]
            told = run(*made_of(case), ("cheapest_prior",), *steps)[6:]
            prior, cost = fractions(told[0])
            with self.subTest(case):
                self.assertTrue(0 <= prior <= 1)
                for other in told[2::2]:
                    self.assertLessEqual(cost, fraction(other))

    def test_4_its_cost_is_the_total_cost_where_it_can_be_set(self):
        tried = 0
        for case in many_settings():
            told = last(*made_of(case), ("cheapest_prior",))
            prior = told[1:3]
            if prior[1] < 100:
                tried += 1
                with self.subTest(case):
                    answers = run(*made_of(case), ("set_prior", *prior), ("total_cost",), ("cheapest_prior",))[7:]
                    self.assertEqual(answers, [[0] + told[3:], told])
        self.assertGreater(tried, 300)

    def test_5_no_set_and_not_0_is_above_the_rational_agents_profit(self):
        for case in many_settings():
            masks = range(2 ** len(case.test_weights))
            told = run(*made_of(case), ("expected_profit",), *[("expected_profit_of", mask) for mask in masks])[6:]
            profit = fraction(told[0])
            with self.subTest(case):
                self.assertGreaterEqual(profit, 0)
                self.assertEqual(profit, max(fraction(reply) for reply in told[1:]))

    def test_6_a_higher_prior_makes_no_signal_pay(self):
        for case in many_settings():
            steps = []
            for num in range(21):
                steps += [("set_prior", num, 20), ("cheating_signals",)]
            told = run(*made_of(case), *steps)[7::2]
            supposed = run(*made_of(case), *[("cheating_signals_for_prior", num, 20) for num in range(21)])[6:]
            with self.subTest(case):
                self.assertEqual(supposed, told)
                for lower, higher in zip(told, told[1:]):
                    self.assertLessEqual(set(higher[1:]), set(lower[1:]))

    def test_6_a_higher_loss_makes_no_signal_pay(self):
        losses = (0, 1, 2, 5, 10, 30, 100, 300, 500, 998, 999)
        for case in many_settings():
            gain = case.stakes[0]
            steps = []
            for loss in losses:
                steps += [("set_stakes", gain, loss), ("cheating_signals",)]
            told = run(*made_of(case), *steps)[7::2]
            supposed = run(*made_of(case), *[("cheating_signals_for_stakes", gain, loss) for loss in losses])[6:]
            with self.subTest(case):
                self.assertEqual(supposed, told)
                for lower, higher in zip(told, told[1:]):
                    self.assertLessEqual(set(higher[1:]), set(lower[1:]))


if __name__ == "__main__":
    unittest.main()
