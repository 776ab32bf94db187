"""Operations 6 to 10: what cheating is worth, and what the rational agent does."""

import unittest
from fractions import Fraction

from calling import HUGE, fraction, last, made_of, many_settings, run, run_behind

EXAMPLE = [("create", 2), ("set_test_weights", 3, 1), ("set_production_weights", 1, 3), ("set_stakes", 4, 1)]

# Cheating is worth 3/4 * 1/2 * 4 - 3/4 at signal 0, so exactly 0; less at 1; more at 2.
BALANCED = [("create", 3), ("set_test_weights", 3, 2, 1), ("set_production_weights", 3, 1, 2),
            ("set_prior", 1, 2), ("set_stakes", 6, 6)]


class Example(unittest.TestCase):
    def test_the_rows_of_the_document(self):
        told = run(*EXAMPLE, ("cheating_value", 0), ("cheating_signals",), ("set_stakes", 4, 0))
        self.assertEqual(told, [[0], [4], [4], [0, 1, 1], [0, 1, 8], [2, 0, 1], [0, 4, 1]])

    def test_the_rest_of_its_agent(self):
        told = run(*EXAMPLE, ("cheating_value", 1), ("expected_profit",), ("expected_profit_of", 2),
                   ("detection_probability",))
        self.assertEqual(told[4:], [[0, 11, 8], [0, 3, 2], [0, 11, 8], [0, 1, 2]])


class CheatingValue(unittest.TestCase):
    def test_exactly_0_and_below_and_above(self):
        told = run(*BALANCED, ("cheating_value", 0), ("cheating_value", 1), ("cheating_value", 2))
        self.assertEqual(told[5:], [[0, 0, 1], [0, -1, 2], [0, 1, 2]])

    def test_a_negative_fraction_in_lowest_terms(self):
        told = last(("create", 1), ("set_prior", 6, 8), ("set_stakes", 1, 4), ("cheating_value", 0))
        self.assertEqual(told, [0, -11, 4])

    def test_a_whole_number_has_1_below_it(self):
        self.assertEqual(last(("create", 1), ("set_stakes", 6, 2), ("cheating_value", 0)), [0, 2, 1])
        self.assertEqual(last(("create", 1), ("set_stakes", 2, 6), ("cheating_value", 0)), [0, -2, 1])

    def test_the_first_and_the_last_signal_and_none(self):
        made = [("create", 5), ("set_test_weights", 0, 0, 0, 0, 1), ("set_production_weights", 1, 0, 0, 0, 0),
                ("set_stakes", 2, 4)]
        told = run(*made, *[("cheating_value", signal) for signal in (0, 3, 4, 5, 6, HUGE)])
        self.assertEqual(told[4:], [[0, 1, 1], [0, 0, 1], [0, -2, 1], [-2], [-2], [-2]])

    def test_a_prior_of_0_and_of_1(self):
        made = [("create", 1), ("set_stakes", 7, 5)]
        self.assertEqual(last(*made, ("set_prior", 0, 9), ("cheating_value", 0)), [0, 7, 1])
        self.assertEqual(last(*made, ("set_prior", 9, 9), ("cheating_value", 0)), [0, -5, 1])

    def test_arguments_at_their_limits(self):
        made = [("create", 5), ("set_test_weights", 98, 99, 99, 99, 99), ("set_production_weights", 99, 99, 99, 99, 97),
                ("set_prior", 1, 99), ("set_stakes", 999, 998)]
        value = 999 * Fraction(98, 99) * Fraction(99, 493) - 998 * Fraction(1, 99) * Fraction(98, 494)
        self.assertEqual(last(*made, ("cheating_value", 0)), [0, value.numerator, value.denominator])


class CheatingSignals(unittest.TestCase):
    def test_a_value_of_0_does_not_pay(self):
        self.assertEqual(last(*BALANCED, ("cheating_signals",)), [1, 2])
        self.assertEqual(last(("create", 5), ("cheating_signals",)), [0])

    def test_all_in_increasing_order(self):
        self.assertEqual(last(("create", 5), ("set_stakes", 2, 1), ("cheating_signals",)), [5, 0, 1, 2, 3, 4])

    def test_some_in_increasing_order(self):
        told = last(("create", 5), ("set_production_weights", 2, 1, 2, 1, 2), ("set_stakes", 1, 1),
                    ("cheating_signals",))
        self.assertEqual(told, [3, 0, 2, 4])

    def test_the_smallest_gain_pays(self):
        told = last(("create", 2), ("set_prior", 98, 99), ("set_test_weights", 0, 1), ("set_stakes", 1, 999),
                    ("cheating_signals",))
        self.assertEqual(told, [1, 0])

    def test_nothing_pays_without_production_or_gain(self):
        for operation in (("set_prior", 1, 1), ("set_stakes", 0, 0), ("set_stakes", 0, 1)):
            with self.subTest(operation):
                told = last(("create", 2), ("set_stakes", 5, 0), operation, ("cheating_signals",))
                self.assertEqual(told, [0])


class ExpectedProfit(unittest.TestCase):
    def test_only_the_signals_that_pay_count(self):
        self.assertEqual(last(*BALANCED, ("expected_profit",)), [0, 1, 2])

    def test_0_where_nothing_pays(self):
        self.assertEqual(last(("create", 3), ("expected_profit",)), [0, 0, 1])
        self.assertEqual(last(("create", 3), ("set_stakes", 1, 9), ("expected_profit",)), [0, 0, 1])

    def test_it_is_a_sum(self):
        told = last(("create", 3), ("set_production_weights", 1, 2, 0), ("set_stakes", 6, 0), ("expected_profit",))
        self.assertEqual(told, [0, 3, 1])


class ExpectedProfitOf(unittest.TestCase):
    def test_each_set_of_three_signals(self):
        # The values are 0, -1/2 and 1/2.
        told = run(*BALANCED, *[("expected_profit_of", mask) for mask in range(8)])
        self.assertEqual(told[5:], [[0, 0, 1], [0, 0, 1], [0, -1, 2], [0, -1, 2],
                                    [0, 1, 2], [0, 1, 2], [0, 0, 1], [0, 0, 1]])

    def test_the_limit_for_each_count(self):
        for count in range(1, 6):
            with self.subTest(count):
                told = run(("create", count), ("set_stakes", 4, 2), ("expected_profit_of", 2 ** count - 1),
                           ("expected_profit_of", 2 ** count), ("expected_profit_of", 2 ** count + 1),
                           ("expected_profit_of", HUGE))
                self.assertEqual(told[2:], [[0, 1, 1], [-22], [-22], [-22]])

    def test_each_bit_is_its_signal(self):
        made = [("create", 5), ("set_production_weights", 1, 2, 3, 4, 5), ("set_stakes", 30, 0)]
        told = run(*made, *[("expected_profit_of", 1 << signal) for signal in range(5)])
        self.assertEqual(told[3:], [[0, 1, 1], [0, 2, 1], [0, 3, 1], [0, 4, 1], [0, 5, 1]])


class DetectionProbability(unittest.TestCase):
    def test_only_the_signals_that_pay_count(self):
        self.assertEqual(last(*BALANCED, ("detection_probability",)), [0, 1, 12])

    def test_0_where_nothing_pays(self):
        self.assertEqual(last(("create", 4), ("detection_probability",)), [0, 0, 1])

    def test_0_where_no_test_shows_the_signal(self):
        told = run(("create", 2), ("set_test_weights", 0, 1), ("cheating_signals",), ("detection_probability",))
        self.assertEqual(told[2:], [[1, 0], [0, 0, 1]])

    def test_the_prior_where_everything_pays(self):
        told = last(("create", 3), ("set_prior", 6, 9), ("set_stakes", 9, 1), ("detection_probability",))
        self.assertEqual(told, [0, 2, 3])

    def test_0_and_the_signals_at_a_prior_of_0(self):
        told = run(("create", 2), ("set_prior", 0, 5), ("cheating_signals",), ("detection_probability",))
        self.assertEqual(told[2:], [[2, 0, 1], [0, 0, 1]])


class BesideThePlainWords(unittest.TestCase):
    """The terms of the document, reckoned with Python's fractions."""

    def test_operations_6_to_10(self):
        for case in many_settings():
            with self.subTest(case):
                count = len(case.test_weights)
                prior = Fraction(*case.prior)
                gain, loss = case.stakes
                tests = [prior * Fraction(weight, sum(case.test_weights)) for weight in case.test_weights]
                uses = [(1 - prior) * Fraction(weight, sum(case.production_weights))
                        for weight in case.production_weights]
                values = [gain * uses[signal] - loss * tests[signal] for signal in range(count)]
                paying = [signal for signal in range(count) if values[signal] > 0]
                told = run_behind(made_of(case), [*[("cheating_value", signal) for signal in range(count)],
                                                  ("cheating_signals",), ("expected_profit",),
                                                  ("detection_probability",)])
                self.assertEqual([fraction(reply) for reply in told[:count]], values)
                self.assertEqual(told[count], [len(paying), *paying])
                self.assertEqual(fraction(told[count + 1]), sum(values[signal] for signal in paying))
                self.assertEqual(fraction(told[count + 2]), sum(tests[signal] for signal in paying))

    def test_each_set_is_the_sum_of_its_values(self):
        for case in many_settings():
            count = len(case.test_weights)
            told = run_behind(made_of(case), [*[("cheating_value", signal) for signal in range(count)],
                                              *[("expected_profit_of", mask) for mask in range(2 ** count)]])
            values = [fraction(reply) for reply in told[:count]]
            for mask in range(2 ** count):
                wanted = sum(values[signal] for signal in range(count) if mask >> signal & 1)
                self.assertEqual(fraction(told[count + mask]), wanted)


if __name__ == "__main__":
    unittest.main()
