"""Operations 11 to 14 and 17: harm, the total cost, the deterrent priors and the cheapest prior."""

import unittest
from fractions import Fraction

from calling import HUGE, fraction, fractions, last, run

EXAMPLE = [("create", 2), ("set_test_weights", 3, 1), ("set_production_weights", 1, 3), ("set_stakes", 4, 1)]

# Cheating is worth exactly 0 at signal 0, less at 1, more at 2.
BALANCED = [("create", 3), ("set_test_weights", 3, 2, 1), ("set_production_weights", 3, 1, 2),
            ("set_prior", 1, 2), ("set_stakes", 6, 6)]

# Signal 0 is never seen in tests, signal 1 never in production, signal 2 nowhere, signal 3 in both.
ONE_SIDED = [("create", 4), ("set_test_weights", 0, 1, 0, 1), ("set_production_weights", 1, 0, 0, 1)]


class Example(unittest.TestCase):
    def test_the_rows_of_the_document(self):
        told = run(*EXAMPLE, ("cheating_value", 0), ("cheating_signals",), ("deterrent_prior_at", 0),
                   ("deterrent_prior",), ("set_stakes", 4, 0), ("deterrent_prior",))
        self.assertEqual(told, [[0], [4], [4], [0, 1, 1], [0, 1, 8], [2, 0, 1], [0, 4, 7], [0, 12, 13],
                                [0, 4, 1], [-33]])


class HarmProbability(unittest.TestCase):
    def test_only_the_signals_that_pay_count(self):
        # 1/2 * 2/6 at signal 2; nothing at signal 0, where cheating is worth 0.
        self.assertEqual(last(*BALANCED, ("harm_probability",)), [0, 1, 6])

    def test_it_is_a_sum(self):
        told = last(("create", 3), ("set_production_weights", 1, 2, 4), ("set_stakes", 9, 5),
                    ("set_prior", 1, 3), ("harm_probability",))
        # 9 * w/7 * 2/3 beats 5 * 1/3 * 1/3 at each signal with w of 1, 2, 4.
        self.assertEqual(told, [0, 2, 3])
        told = last(("create", 3), ("set_production_weights", 1, 2, 4), ("set_prior", 1, 3), ("set_stakes", 3, 5),
                    ("harm_probability",))
        # 2 * w/7 against 5/9: at the signals with w of 2 and 4.
        self.assertEqual(told, [0, 4, 7])

    def test_0_where_nothing_pays(self):
        self.assertEqual(last(("create", 4), ("harm_probability",)), [0, 0, 1])
        self.assertEqual(last(("create", 4), ("set_stakes", 0, 0), ("harm_probability",)), [0, 0, 1])

    def test_a_prior_of_0_and_of_1(self):
        made = [("create", 3), ("set_stakes", 5, 0)]
        self.assertEqual(last(*made, ("set_prior", 0, 7), ("harm_probability",)), [0, 1, 1])
        self.assertEqual(last(*made, ("set_prior", 7, 7), ("harm_probability",)), [0, 0, 1])

    def test_prices_mean_nothing_to_it(self):
        self.assertEqual(last(*BALANCED, ("set_prices", 999, 0), ("harm_probability",)), [0, 1, 6])


class TotalCost(unittest.TestCase):
    def test_tests_and_harm(self):
        # 10 * 1/2 + 4 * 1/6
        self.assertEqual(last(*BALANCED, ("set_prices", 4, 10), ("total_cost",)), [0, 17, 3])

    def test_each_price_alone(self):
        self.assertEqual(last(*BALANCED, ("set_prices", 12, 0), ("total_cost",)), [0, 2, 1])
        self.assertEqual(last(*BALANCED, ("set_prices", 0, 12), ("total_cost",)), [0, 6, 1])
        self.assertEqual(last(*BALANCED, ("set_prices", 0, 0), ("total_cost",)), [0, 0, 1])

    def test_only_tests_cost_where_nothing_pays(self):
        self.assertEqual(last(("create", 2), ("set_prices", 999, 7), ("total_cost",)), [0, 7, 2])

    def test_a_prior_of_0_and_of_1(self):
        made = [("create", 3), ("set_stakes", 5, 0), ("set_prices", 11, 13)]
        self.assertEqual(last(*made, ("set_prior", 0, 3), ("total_cost",)), [0, 11, 1])
        self.assertEqual(last(*made, ("set_prior", 3, 3), ("total_cost",)), [0, 13, 1])

    def test_at_the_beginning(self):
        self.assertEqual(last(("create", 5), ("total_cost",)), [0, 1, 2])

    def test_arguments_at_their_limits(self):
        made = [("create", 5), ("set_production_weights", 99, 99, 99, 99, 97), ("set_prior", 98, 99),
                ("set_stakes", 999, 0), ("set_prices", 999, 998)]
        self.assertEqual(fraction(last(*made, ("total_cost",))), Fraction(998 * 98 + 999, 99))


class DeterrentPriorAt(unittest.TestCase):
    def test_each_signal(self):
        told = run(*EXAMPLE, ("deterrent_prior_at", 0), ("deterrent_prior_at", 1))
        self.assertEqual(told[4:], [[0, 4, 7], [0, 12, 13]])

    def test_shares_count_and_not_weights(self):
        told = run(("create", 2), ("set_test_weights", 1, 1), ("set_production_weights", 20, 40),
                   ("deterrent_prior_at", 0), ("deterrent_prior_at", 1))
        # 1/3 against 1/2, and 2/3 against 1/2.
        self.assertEqual(told[3:], [[0, 2, 5], [0, 4, 7]])

    def test_0_where_production_never_shows_the_signal(self):
        told = run(*ONE_SIDED, ("deterrent_prior_at", 1), ("deterrent_prior_at", 2), ("set_stakes", 5, 0),
                   ("deterrent_prior_at", 1), ("deterrent_prior_at", 2))
        self.assertEqual(told[3:], [[0, 0, 1], [0, 0, 1], [0, 1, 1], [0, 0, 1], [0, 0, 1]])

    def test_0_without_a_gain(self):
        for loss in (0, 3):
            told = run(*ONE_SIDED, ("set_stakes", 0, loss), *[("deterrent_prior_at", signal) for signal in range(4)])
            self.assertEqual(told[4:], [[0, 0, 1]] * 4)

    def test_none_where_no_test_shows_the_signal(self):
        told = run(*ONE_SIDED, ("deterrent_prior_at", 0), ("deterrent_prior_at", 3), ("set_stakes", 1, 999),
                   ("deterrent_prior_at", 0))
        self.assertEqual(told[3:], [[-33], [0, 1, 2], [0, 1, 1], [-33]])

    def test_none_without_a_loss(self):
        told = run(("create", 2), ("set_stakes", 1, 0), ("deterrent_prior_at", 0), ("deterrent_prior_at", 1))
        self.assertEqual(told[2:], [[-33], [-33]])

    def test_it_stays_below_1_where_there_is_a_loss(self):
        told = last(("create", 2), ("set_test_weights", 1, 99), ("set_production_weights", 99, 1),
                    ("set_stakes", 999, 1), ("deterrent_prior_at", 0))
        self.assertEqual(told, [0, 98901, 98902])

    def test_no_such_signal(self):
        for count in range(1, 6):
            told = run(("create", count), ("deterrent_prior_at", count - 1), ("deterrent_prior_at", count),
                       ("deterrent_prior_at", HUGE))
            self.assertEqual(told[1:], [[0, 1, 2], [-2], [-2]])

    def test_no_such_signal_comes_before_no_such_prior(self):
        told = run(("create", 2), ("set_stakes", 1, 0), ("deterrent_prior_at", 1), ("deterrent_prior_at", 2),
                   ("deterrent_prior_at", HUGE))
        self.assertEqual(told[2:], [[-33], [-2], [-2]])

    def test_the_prior_that_is_set_means_nothing_to_it(self):
        for num in range(0, 8):
            self.assertEqual(last(*EXAMPLE, ("set_prior", num, 7), ("deterrent_prior_at", 0)), [0, 4, 7])

    def test_at_this_prior_cheating_does_not_pay(self):
        told = run(*EXAMPLE, ("set_prior", 56, 98), ("cheating_signals",), ("set_prior", 55, 98),
                   ("cheating_signals",), ("set_prior", 84, 91), ("cheating_signals",), ("set_prior", 83, 91),
                   ("cheating_signals",))
        self.assertEqual(told[5::2], [[1, 1], [2, 0, 1], [0], [1, 1]])


class DeterrentPrior(unittest.TestCase):
    def test_the_largest_wherever_it_stands(self):
        made = [("create", 3), ("set_test_weights", 1, 1, 1)]
        for weights in ((3, 1, 2), (1, 3, 2), (1, 2, 3)):
            told = last(*made, ("set_production_weights", *weights), ("deterrent_prior",))
            # 1/2 against 1/3
            self.assertEqual(told, [0, 3, 5])

    def test_larger_is_not_written_with_larger_numbers(self):
        told = run(("create", 2), ("set_test_weights", 1, 3), ("set_production_weights", 1, 2), ("set_stakes", 3, 2),
                   ("deterrent_prior_at", 0), ("deterrent_prior_at", 1), ("deterrent_prior",))
        self.assertEqual(told[4:], [[0, 2, 3], [0, 4, 7], [0, 2, 3]])

    def test_none_as_soon_as_one_signal_has_none(self):
        for place in range(3):
            weights = [1, 1, 1]
            weights[place] = 0
            told = last(("create", 3), ("set_test_weights", *weights), ("deterrent_prior",))
            self.assertEqual(told, [-33])

    def test_none_without_a_loss(self):
        self.assertEqual(last(("create", 1), ("set_stakes", 999, 0), ("deterrent_prior",)), [-33])

    def test_0_without_a_gain(self):
        for loss in (0, 1, 999):
            self.assertEqual(last(*ONE_SIDED, ("set_stakes", 0, loss), ("deterrent_prior",)), [0, 0, 1])

    def test_a_signal_that_production_never_shows_takes_nothing_away(self):
        told = last(("create", 2), ("set_test_weights", 1, 0), ("set_production_weights", 1, 0), ("deterrent_prior",))
        self.assertEqual(told, [0, 1, 2])
        told = last(("create", 2), ("set_test_weights", 1, 1), ("set_production_weights", 0, 1), ("deterrent_prior",))
        self.assertEqual(told, [0, 2, 3])

    def test_the_prior_that_is_set_means_nothing_to_it(self):
        for num in (0, 1, 98, 99):
            self.assertEqual(last(*EXAMPLE, ("set_prior", num, 99), ("deterrent_prior",)), [0, 12, 13])


class CheapestPrior(unittest.TestCase):
    def test_at_a_deterrent_prior_in_the_middle(self):
        # At 0: 1. At 4/7: 4/7 + 3/7 * 3/4 = 25/28. At 12/13: 12/13. At 1: 1.
        self.assertEqual(last(*EXAMPLE, ("cheapest_prior",)), [0, 4, 7, 25, 28])

    def test_at_the_largest_deterrent_prior(self):
        # At 4/7: 4/7 + 2 * 9/28 = 17/14; at 12/13: 12/13.
        self.assertEqual(last(*EXAMPLE, ("set_prices", 2, 1), ("cheapest_prior",)), [0, 12, 13, 12, 13])

    def test_at_0(self):
        # At 0: 1; at 1/2: 3/2.
        self.assertEqual(last(("create", 1), ("set_prices", 1, 3), ("cheapest_prior",)), [0, 0, 1, 1, 1])

    def test_at_1(self):
        # No prior below 1 deters: 10 * (1 - p) + p.
        told = last(("create", 1), ("set_stakes", 1, 0), ("set_prices", 10, 1), ("cheapest_prior",))
        self.assertEqual(told, [0, 1, 1, 1, 1])

    def test_at_1_where_one_signal_alone_has_no_deterrent_prior(self):
        # Signal 0 does harm at each prior below 1; signal 1 only below 1/3.
        made = [("create", 2), ("set_test_weights", 0, 1), ("set_production_weights", 1, 1)]
        self.assertEqual(last(*made, ("deterrent_prior_at", 1)), [0, 1, 3])
        self.assertEqual(last(*made, ("set_prices", 9, 1), ("cheapest_prior",)), [0, 1, 1, 1, 1])
        # At 0: 2. At 1/3: 1/3 + 2 * 2/3 * 1/2 = 1. At 1: 1.
        self.assertEqual(last(*made, ("set_prices", 2, 1), ("cheapest_prior",)), [0, 1, 3, 1, 1])
        # At 0: 4. At 1/3: 2 * 1/3 + 4 * 2/3 * 1/2 = 2. At 1: 2.
        self.assertEqual(last(*made, ("set_prices", 4, 2), ("cheapest_prior",)), [0, 1, 3, 2, 1])

    def test_ties_go_to_the_smallest(self):
        self.assertEqual(last(*EXAMPLE, ("set_prices", 0, 0), ("cheapest_prior",)), [0, 0, 1, 0, 1])
        self.assertEqual(last(*EXAMPLE, ("set_prices", 0, 5), ("cheapest_prior",)), [0, 0, 1, 0, 1])
        # Without a price of tests each prior from 12/13 on costs nothing.
        self.assertEqual(last(*EXAMPLE, ("set_prices", 5, 0), ("cheapest_prior",)), [0, 12, 13, 0, 1])
        for loss in (0, 5):
            told = last(*EXAMPLE, ("set_stakes", 0, loss), ("set_prices", 7, 9), ("cheapest_prior",))
            self.assertEqual(told, [0, 0, 1, 0, 1])
            told = last(*EXAMPLE, ("set_stakes", 0, loss), ("set_prices", 7, 0), ("cheapest_prior",))
            self.assertEqual(told, [0, 0, 1, 0, 1])

    def test_a_tie_of_0_and_1(self):
        told = last(("create", 2), ("set_stakes", 3, 0), ("set_prices", 8, 8), ("cheapest_prior",))
        self.assertEqual(told, [0, 0, 1, 8, 1])

    def test_a_tie_of_0_and_a_deterrent_prior(self):
        # At 0: 1; at 1/2: 2 * 1/2.
        self.assertEqual(last(("create", 1), ("set_prices", 1, 2), ("cheapest_prior",)), [0, 0, 1, 1, 1])

    def test_a_tie_of_two_deterrent_priors(self):
        for tests, uses in (((3, 1), (1, 3)), ((1, 3), (3, 1))):
            made = [("create", 2), ("set_test_weights", *tests), ("set_production_weights", *uses),
                    ("set_stakes", 4, 1)]
            # With 117 for a test: 117 * 4/7 + 128 * 9/28 at 4/7 are 108, as 117 * 12/13 are at 12/13.
            self.assertEqual(last(*made, ("set_prices", 128, 117), ("cheapest_prior",)), [0, 4, 7, 108, 1])
            self.assertEqual(last(*made, ("set_prices", 129, 117), ("cheapest_prior",)), [0, 12, 13, 108, 1])
            told = fractions(last(*made, ("set_prices", 127, 117), ("cheapest_prior",)))
            self.assertEqual(told, [Fraction(4, 7), 117 * Fraction(4, 7) + 127 * Fraction(9, 28)])

    def test_the_cost_is_the_total_cost_at_this_prior(self):
        told = run(*EXAMPLE, ("set_prices", 999, 7), ("cheapest_prior",), ("set_prior", 12, 13), ("total_cost",))
        self.assertEqual(told[5][:3], [0, 12, 13])
        self.assertEqual(told[5][3:], told[7][1:])

    def test_the_prior_that_is_set_means_nothing_to_it_and_stays(self):
        for num, den in ((0, 5), (1, 5), (98, 99), (4, 4)):
            told = run(*EXAMPLE, ("set_prior", num, den), ("cheapest_prior",), ("set_prior", 1, 2))
            self.assertEqual(told[5:], [[0, 4, 7, 25, 28], [0, num, den]])


if __name__ == "__main__":
    unittest.main()
