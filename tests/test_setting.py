"""Operations 0 to 5: a setting is created and its fields are set."""

import unittest

from calling import HUGE, last, run


class Create(unittest.TestCase):
    def test_each_count_within_the_limits(self):
        for count in range(1, 6):
            with self.subTest(count):
                told = run(("create", count), ("cheating_value", count - 1), ("cheating_value", count))
                self.assertEqual(told, [[0], [0, 0, 1], [-2]])

    def test_each_count_outside_the_limits(self):
        for count in (0, 6, 7, 8, HUGE):
            with self.subTest(count):
                self.assertEqual(run(("create", count)), [[-22]])

    def test_the_setting_at_the_beginning(self):
        told = run(("create", 3), ("set_prior", 0, 1), ("set_stakes", 2, 3), ("set_prices", 4, 5))
        self.assertEqual(told, [[0], [0, 1, 2], [0, 1, 1], [0, 1, 1]])

    def test_all_weights_are_1_at_the_beginning(self):
        told = run(("create", 4), ("set_stakes", 3, 1), *[("cheating_value", signal) for signal in range(4)])
        # 3 * 1/2 * 1/4 - 1 * 1/2 * 1/4
        self.assertEqual(told[2:], [[0, 1, 4]] * 4)
        told = run(("create", 4), ("set_stakes", 0, 1), *[("cheating_value", signal) for signal in range(4)])
        self.assertEqual(told[2:], [[0, -1, 8]] * 4)

    def test_a_new_one_replaces_every_field(self):
        told = run(("create", 2), ("set_test_weights", 1, 3), ("set_production_weights", 3, 1), ("set_prior", 1, 7),
                   ("set_stakes", 5, 6), ("set_prices", 7, 8), ("create", 2), ("cheating_value", 0),
                   ("cheating_value", 1), ("set_prior", 1, 2), ("set_stakes", 2, 1), ("set_prices", 1, 1),
                   ("cheating_value", 0), ("cheating_value", 1))
        self.assertEqual(told[6:], [[0], [0, 0, 1], [0, 0, 1], [0, 1, 2], [0, 1, 1], [0, 1, 1], [0, 1, 4], [0, 1, 4]])

    def test_a_new_one_may_have_more_or_fewer_signals(self):
        told = run(("create", 1), ("cheating_value", 1), ("create", 5), ("cheating_value", 4),
                   ("create", 2), ("cheating_value", 2), ("cheating_value", 1))
        self.assertEqual(told, [[0], [-2], [0], [0, 0, 1], [0], [-2], [0, 0, 1]])

    def test_one_that_fails_keeps_the_setting(self):
        told = run(("create", 2), ("set_stakes", 5, 6), ("create", 6), ("set_stakes", 1, 1), ("cheating_value", 1))
        self.assertEqual(told, [[0], [0, 1, 1], [-22], [0, 5, 6], [0, 0, 1]])


class Weights(unittest.TestCase):
    NAMES = ("set_test_weights", "set_production_weights")

    def each(self, count, weights):
        """What both operations answer, which is the same."""
        told = [last(("create", count), (name, *weights)) for name in self.NAMES]
        self.assertEqual(told[0], told[1])
        return told[0]

    def test_the_sum_is_answered(self):
        self.assertEqual(self.each(1, [1]), [1])
        self.assertEqual(self.each(2, [3, 1]), [4])
        self.assertEqual(self.each(5, [1, 2, 3, 4, 5]), [15])

    def test_the_limit_of_a_weight(self):
        self.assertEqual(self.each(1, [99]), [99])
        self.assertEqual(self.each(5, [99] * 5), [495])
        self.assertEqual(self.each(1, [100]), [-22])
        for place in range(5):
            weights = [99] * 5
            weights[place] = 100
            self.assertEqual(self.each(5, weights), [-22])
            weights[place] = HUGE
            self.assertEqual(self.each(5, weights), [-22])

    def test_one_that_is_not_0_is_enough(self):
        for place in range(5):
            weights = [0] * 5
            weights[place] = 1
            self.assertEqual(self.each(5, weights), [1])

    def test_all_0(self):
        for count in range(1, 6):
            self.assertEqual(self.each(count, [0] * count), [-22])

    def test_too_few_or_too_many(self):
        for count in range(1, 6):
            for given in range(9):
                with self.subTest(count=count, given=given):
                    told = self.each(count, [1] * given)
                    self.assertEqual(told, [count] if given == count else [-22])

    def test_too_many_with_0_behind(self):
        self.assertEqual(self.each(2, [1, 1, 0]), [-22])

    def test_the_test_weights_are_replaced(self):
        told = run(("create", 2), ("set_stakes", 0, 8), ("set_test_weights", 3, 1), ("cheating_value", 0),
                   ("cheating_value", 1), ("set_test_weights", 0, 5), ("cheating_value", 0), ("cheating_value", 1))
        self.assertEqual(told[2:], [[4], [0, -3, 1], [0, -1, 1], [5], [0, 0, 1], [0, -4, 1]])

    def test_the_production_weights_are_replaced(self):
        told = run(("create", 2), ("set_stakes", 8, 0), ("set_production_weights", 3, 1), ("cheating_value", 0),
                   ("cheating_value", 1), ("set_production_weights", 0, 5), ("cheating_value", 0),
                   ("cheating_value", 1))
        self.assertEqual(told[2:], [[4], [0, 3, 1], [0, 1, 1], [5], [0, 0, 1], [0, 4, 1]])


class Prior(unittest.TestCase):
    def test_the_previous_one_is_answered_as_it_was_set(self):
        told = run(("create", 1), ("set_prior", 2, 4), ("set_prior", 0, 7), ("set_prior", 99, 99), ("set_prior", 1, 1))
        self.assertEqual(told, [[0], [0, 1, 2], [0, 2, 4], [0, 0, 7], [0, 99, 99]])

    def test_the_limits(self):
        for num, den in ((0, 1), (1, 1), (0, 99), (98, 99), (99, 99)):
            with self.subTest(num=num, den=den):
                told = run(("create", 1), ("set_prior", num, den), ("set_prior", 1, 2))
                self.assertEqual(told[1:], [[0, 1, 2], [0, num, den]])

    def test_beyond_the_limits(self):
        beyond = ((0, 0), (1, 0), (HUGE, 0), (2, 1), (99, 98), (100, 99), (0, 100), (1, 100), (100, 100),
                  (HUGE, HUGE), (1, HUGE), (HUGE, 1), (0, HUGE))
        for num, den in beyond:
            with self.subTest(num=num, den=den):
                told = run(("create", 1), ("set_prior", num, den), ("set_prior", 1, 2))
                self.assertEqual(told[1:], [[-22], [0, 1, 2]])

    def test_it_is_the_prior_from_then_on(self):
        told = run(("create", 1), ("set_stakes", 2, 1), ("set_prior", 1, 5), ("cheating_value", 0),
                   ("set_prior", 2, 3), ("cheating_value", 0))
        # 2 * 4/5 - 1 * 1/5, then 2 * 1/3 - 1 * 2/3
        self.assertEqual(told[3], [0, 7, 5])
        self.assertEqual(told[5], [0, 0, 1])


class Amounts(unittest.TestCase):
    NAMES = ("set_stakes", "set_prices")

    def test_the_previous_ones_are_answered(self):
        for name in self.NAMES:
            told = run(("create", 1), (name, 4, 7), (name, 0, 999), (name, 999, 0), (name, 1, 2))
            self.assertEqual(told, [[0], [0, 1, 1], [0, 4, 7], [0, 0, 999], [0, 999, 0]])

    def test_beyond_the_limits(self):
        for name in self.NAMES:
            for pair in ((1000, 0), (0, 1000), (1000, 1000), (HUGE, 1), (1, HUGE)):
                with self.subTest(name=name, pair=pair):
                    told = run(("create", 1), (name, 3, 4), (name, *pair), (name, 1, 1))
                    self.assertEqual(told[2:], [[-22], [0, 3, 4]])

    def test_stakes_and_prices_are_apart(self):
        told = run(("create", 1), ("set_stakes", 2, 3), ("set_prices", 4, 5), ("set_stakes", 6, 7),
                   ("set_prices", 8, 9))
        self.assertEqual(told[1:], [[0, 1, 1], [0, 1, 1], [0, 2, 3], [0, 4, 5]])

    def test_they_are_the_stakes_from_then_on(self):
        told = run(("create", 1), ("set_stakes", 10, 4), ("cheating_value", 0), ("set_stakes", 4, 10),
                   ("cheating_value", 0))
        self.assertEqual(told[2], [0, 3, 1])
        self.assertEqual(told[4], [0, -3, 1])

    def test_prices_mean_nothing_to_the_agent(self):
        told = run(("create", 1), ("set_stakes", 10, 4), ("set_prices", 999, 0), ("cheating_value", 0),
                   ("expected_profit",))
        self.assertEqual(told[3:], [[0, 3, 1], [0, 3, 1]])


if __name__ == "__main__":
    unittest.main()
