"""Operations 18 to 20: another prior or other stakes are supposed, and the setting is shown."""

import unittest

from calling import HUGE, last, run

EXAMPLE = [("create", 2), ("set_test_weights", 3, 1), ("set_production_weights", 1, 3), ("set_stakes", 4, 1)]

MADE = [("create", 3), ("set_test_weights", 3, 2, 1), ("set_production_weights", 3, 1, 2),
        ("set_prior", 2, 6), ("set_stakes", 6, 4), ("set_prices", 8, 9)]

SHOWN = [3, 2, 6, 6, 4, 8, 9, 3, 2, 1, 3, 1, 2]


class ForPrior(unittest.TestCase):
    def test_below_and_at_and_above_each_deterrent_prior(self):
        told = run(*EXAMPLE, *[("cheating_signals_for_prior", num, den) for num, den in
                               ((0, 1), (1, 2), (56, 99), (4, 7), (57, 99), (91, 99), (12, 13), (92, 99), (1, 1))])
        self.assertEqual(told[4:], [[2, 0, 1], [2, 0, 1], [2, 0, 1], [1, 1], [1, 1], [1, 1], [0], [0], [0]])

    def test_the_limits(self):
        for num, den in ((0, 1), (0, 99), (1, 99), (49, 98)):
            with self.subTest(num=num, den=den):
                self.assertEqual(last(*EXAMPLE, ("cheating_signals_for_prior", num, den)), [2, 0, 1])
        for num, den in ((1, 1), (98, 99), (99, 99)):
            with self.subTest(num=num, den=den):
                self.assertEqual(last(*EXAMPLE, ("cheating_signals_for_prior", num, den)), [0])

    def test_beyond_the_limits(self):
        beyond = ((0, 0), (1, 0), (HUGE, 0), (2, 1), (99, 98), (100, 99), (0, 100), (1, 100), (100, 100),
                  (HUGE, HUGE), (1, HUGE), (HUGE, 1), (0, HUGE))
        for num, den in beyond:
            with self.subTest(num=num, den=den):
                told = run(*MADE, ("cheating_signals_for_prior", num, den), ("get_settings",))
                self.assertEqual(told[6:], [[-22], SHOWN])

    def test_the_prior_that_is_set_means_nothing_to_it_and_stays(self):
        for num, den in ((0, 3), (4, 7), (99, 99)):
            told = run(*EXAMPLE, ("set_prior", num, den), ("cheating_signals_for_prior", 2, 3), ("set_prior", 1, 2))
            self.assertEqual(told[5:], [[1, 1], [0, num, den]])

    def test_it_answers_as_after_set_prior_and_changes_nothing(self):
        for den in (1, 2, 7, 50, 99):
            for num in range(den + 1):
                told = run(*MADE, ("cheating_signals_for_prior", num, den), ("get_settings",),
                           ("set_prior", num, den), ("cheating_signals",))[6:]
                self.assertEqual(told[1], SHOWN)
                self.assertEqual(told[0], told[3])


class ForStakes(unittest.TestCase):
    def test_below_and_at_and_above(self):
        # At a prior of 1/2, cheating pays at signal 0 where gain > 3 * loss, and at 1 where 3 * gain > loss.
        pairs = ((1, 4), (1, 3), (1, 2), (3, 1), (4, 1), (0, 1), (0, 0), (1, 0))
        told = run(*EXAMPLE, *[("cheating_signals_for_stakes", gain, loss) for gain, loss in pairs])
        self.assertEqual(told[4:], [[0], [0], [1, 1], [1, 1], [2, 0, 1], [0], [0], [2, 0, 1]])

    def test_the_limits(self):
        told = run(*EXAMPLE, ("cheating_signals_for_stakes", 999, 999), ("cheating_signals_for_stakes", 999, 0),
                   ("cheating_signals_for_stakes", 0, 999), ("cheating_signals_for_stakes", 999, 332),
                   ("cheating_signals_for_stakes", 999, 333), ("cheating_signals_for_stakes", 333, 999))
        self.assertEqual(told[4:], [[1, 1], [2, 0, 1], [0], [2, 0, 1], [1, 1], [0]])

    def test_beyond_the_limits(self):
        for pair in ((1000, 0), (0, 1000), (1000, 999), (999, 1000), (1000, 1000), (HUGE, 1), (1, HUGE),
                     (HUGE, HUGE)):
            with self.subTest(pair):
                told = run(*MADE, ("cheating_signals_for_stakes", *pair), ("get_settings",))
                self.assertEqual(told[6:], [[-22], SHOWN])

    def test_the_stakes_that_are_set_mean_nothing_to_it_and_stay(self):
        for pair in ((0, 0), (999, 0), (5, 6)):
            told = run(*EXAMPLE, ("set_stakes", *pair), ("cheating_signals_for_stakes", 2, 1), ("set_stakes", 1, 1))
            self.assertEqual(told[5:], [[1, 1], [0, *pair]])

    def test_it_answers_as_after_set_stakes_and_changes_nothing(self):
        for gain in (0, 1, 2, 5, 998, 999):
            for loss in (0, 1, 2, 3, 10, 998, 999):
                told = run(*MADE, ("cheating_signals_for_stakes", gain, loss), ("get_settings",),
                           ("set_stakes", gain, loss), ("cheating_signals",))[6:]
                self.assertEqual(told[1], SHOWN)
                self.assertEqual(told[0], told[3])


class GetSettings(unittest.TestCase):
    def test_at_the_beginning(self):
        for count in range(1, 6):
            told = last(("create", count), ("get_settings",))
            self.assertEqual(told, [count, 1, 2, 1, 1, 1, 1] + [1] * (2 * count))

    def test_each_field_in_its_place(self):
        self.assertEqual(last(*MADE, ("get_settings",)), SHOWN)

    def test_each_field_after_the_operation_that_sets_it(self):
        told = run(("create", 2), ("set_test_weights", 11, 12), ("get_settings",),
                   ("set_production_weights", 13, 14), ("get_settings",), ("set_prior", 15, 16), ("get_settings",),
                   ("set_stakes", 17, 18), ("get_settings",), ("set_prices", 19, 20), ("get_settings",))
        self.assertEqual(told[2::2], [
            [2, 1, 2, 1, 1, 1, 1, 11, 12, 1, 1],
            [2, 1, 2, 1, 1, 1, 1, 11, 12, 13, 14],
            [2, 15, 16, 1, 1, 1, 1, 11, 12, 13, 14],
            [2, 15, 16, 17, 18, 1, 1, 11, 12, 13, 14],
            [2, 15, 16, 17, 18, 19, 20, 11, 12, 13, 14],
        ])

    def test_the_prior_as_it_was_set(self):
        for num, den in ((2, 4), (0, 99), (0, 1), (99, 99), (33, 99)):
            told = last(("create", 1), ("set_prior", num, den), ("get_settings",))
            self.assertEqual(told, [1, num, den, 1, 1, 1, 1, 1, 1])

    def test_the_weights_as_they_were_set(self):
        told = last(("create", 2), ("set_test_weights", 98, 0), ("set_production_weights", 0, 2), ("get_settings",))
        self.assertEqual(told[7:], [98, 0, 0, 2])

    def test_a_new_setting_replaces_it_and_a_refused_one_does_not(self):
        told = run(*MADE, ("create", 0), ("get_settings",), ("create", 6), ("get_settings",), ("create", HUGE),
                   ("get_settings",), ("create", 1), ("get_settings",))
        self.assertEqual(told[6:], [[-22], SHOWN, [-22], SHOWN, [-22], SHOWN, [0], [1, 1, 2, 1, 1, 1, 1, 1, 1]])

    def test_it_changes_nothing(self):
        self.assertEqual(run(*MADE, ("get_settings",), ("get_settings",))[6:], [SHOWN, SHOWN])


if __name__ == "__main__":
    unittest.main()
