"""Operations 15 and 16: what a merge would change, and what it changes."""

import unittest

from calling import HUGE, last, run

MADE = [("create", 3), ("set_test_weights", 3, 2, 1), ("set_production_weights", 3, 1, 2),
        ("set_prior", 2, 6), ("set_stakes", 6, 4), ("set_prices", 8, 9)]

# No test shows signal 0.
HIDDEN = [("create", 2), ("set_test_weights", 0, 1), ("set_production_weights", 1, 1)]

NAMES = ("preview_merge", "merge_signals")

WRONG = ((), (0,), (0, 1), (0, 1, 2, 0), (0, 1, 2, 2, 1), (0,) * 8, (3, 1, 2), (0, 3, 2), (0, 1, 3), (3, 3, 3),
         (HUGE, 0, 0), (0, 0, HUGE), (3,), (0, 1, 2, 3))


def weights_after(made, *mappings):
    """The test weights and the production weights after these merges."""
    told = last(*made, *[("merge_signals", *mapping) for mapping in mappings], ("get_settings",))
    return told[7:7 + told[0]], told[7 + told[0]:]


class Weights(unittest.TestCase):
    def test_a_mapping_that_changes_nothing(self):
        self.assertEqual(weights_after(MADE, (0, 1, 2)), ([3, 2, 1], [3, 1, 2]))

    def test_two_seen_as_one(self):
        self.assertEqual(weights_after(MADE, (0, 0, 2)), ([5, 0, 1], [4, 0, 2]))
        self.assertEqual(weights_after(MADE, (1, 1, 2)), ([0, 5, 1], [0, 4, 2]))
        self.assertEqual(weights_after(MADE, (2, 1, 2)), ([0, 2, 4], [0, 1, 5]))

    def test_all_seen_as_one(self):
        self.assertEqual(weights_after(MADE, (0, 0, 0)), ([6, 0, 0], [6, 0, 0]))
        self.assertEqual(weights_after(MADE, (1, 1, 1)), ([0, 6, 0], [0, 6, 0]))
        self.assertEqual(weights_after(MADE, (2, 2, 2)), ([0, 0, 6], [0, 0, 6]))

    def test_all_at_once_and_not_one_behind_another(self):
        self.assertEqual(weights_after(MADE, (1, 2, 0)), ([1, 3, 2], [2, 3, 1]))
        self.assertEqual(weights_after(MADE, (1, 0, 2)), ([2, 3, 1], [1, 3, 2]))
        self.assertEqual(weights_after(MADE, (1, 2, 2)), ([0, 3, 3], [0, 3, 3]))

    def test_one_merge_after_another(self):
        self.assertEqual(weights_after(MADE, (1, 2, 0), (0, 0, 2)), ([4, 0, 2], [5, 0, 1]))
        self.assertEqual(weights_after(MADE, (0, 0, 2), (2, 1, 2)), ([0, 0, 6], [0, 0, 6]))
        # A merge can't be taken back.
        self.assertEqual(weights_after(MADE, (0, 0, 2), (0, 1, 2)), ([5, 0, 1], [4, 0, 2]))

    def test_weights_above_99(self):
        made = [("create", 5), ("set_test_weights", 99, 99, 99, 99, 99), ("set_production_weights", 98, 99, 1, 1, 99)]
        self.assertEqual(weights_after(made, (4, 4, 4, 4, 4)), ([0, 0, 0, 0, 495], [0, 0, 0, 0, 298]))
        self.assertEqual(weights_after(made, (1, 1, 2, 2, 2)), ([0, 198, 297, 0, 0], [0, 197, 101, 0, 0]))
        told = run(*made, ("set_stakes", 10, 4), ("merge_signals", 4, 4, 4, 4, 4), ("cheating_value", 4),
                   ("deterrent_prior_at", 4), ("cheating_value", 0), ("deterrent_prior_at", 0))
        self.assertEqual(told[4:], [[1, 4], [0, 3, 1], [0, 5, 7], [0, 0, 1], [0, 0, 1]])

    def test_above_99_they_can_still_not_be_set(self):
        told = run(("create", 2), ("set_test_weights", 99, 99), ("merge_signals", 0, 0), ("set_test_weights", 100, 0),
                   ("get_settings",), ("set_test_weights", 5, 6), ("get_settings",))
        self.assertEqual(told[3:], [[-22], [2, 1, 2, 1, 1, 1, 1, 198, 0, 2, 0], [11],
                                    [2, 1, 2, 1, 1, 1, 1, 5, 6, 2, 0]])

    def test_the_other_fields_stay(self):
        told = last(*MADE, ("merge_signals", 0, 0, 0), ("get_settings",))
        self.assertEqual(told, [3, 2, 6, 6, 4, 8, 9, 6, 0, 0, 6, 0, 0])

    def test_the_number_of_signals_stays(self):
        told = run(*MADE, ("merge_signals", 0, 0, 0), ("cheating_value", 2), ("cheating_value", 3),
                   ("expected_profit_of", 7), ("expected_profit_of", 8), ("merge_signals", 2, 2, 2))
        self.assertEqual(told[7:], [[0, 0, 1], [-2], [0, 8, 3], [-22], [1, 2]])

    def test_each_count_of_signals(self):
        for count in range(1, 6):
            made = [("create", count)]
            self.assertEqual(weights_after(made, (count - 1,) * count), ([0] * (count - 1) + [count],) * 2)


class MergeSignals(unittest.TestCase):
    def test_the_signals_at_which_cheating_pays_afterwards(self):
        # At signal 1, where it is worth least: 6 * 2/3 * 1/6 - 4 * 1/3 * 1/3 = 2/9.
        self.assertEqual(last(*MADE, ("cheating_signals",)), [3, 0, 1, 2])
        self.assertEqual(last(*MADE, ("merge_signals", 0, 1, 2)), [3, 0, 1, 2])
        self.assertEqual(last(*MADE, ("merge_signals", 0, 0, 2)), [2, 0, 2])
        self.assertEqual(last(*MADE, ("merge_signals", 1, 1, 1)), [1, 1])

    def test_none(self):
        self.assertEqual(last(*MADE, ("set_prior", 5, 6), ("merge_signals", 0, 0, 2)), [0])

    def test_one_that_paid_can_stop_to_pay(self):
        told = run(*HIDDEN, ("cheating_signals",), ("merge_signals", 1, 1), ("cheating_signals",))
        self.assertEqual(told[3:], [[1, 0], [0], [0]])

    def test_there_is_no_refusal_where_no_deterrent_prior_exists(self):
        told = run(*HIDDEN, ("merge_signals", 0, 1), ("deterrent_prior",), ("set_stakes", 3, 0),
                   ("merge_signals", 0, 0))
        self.assertEqual(told[3:], [[1, 0], [-33], [0, 1, 1], [1, 0]])


class PreviewMerge(unittest.TestCase):
    def test_the_prior_and_the_profit_as_they_would_be(self):
        # The larger of 4 / (4 + 10/3) and 2 / (2 + 2/3); 6 * 2/3 - 4 * 1/3, for cheating pays at both.
        self.assertEqual(last(*MADE, ("preview_merge", 0, 0, 2)), [0, 3, 4, 8, 3])
        # All seen as one: 6 / (6 + 4).
        self.assertEqual(last(*MADE, ("preview_merge", 1, 1, 1)), [0, 3, 5, 8, 3])

    def test_the_profit_is_that_of_the_prior_that_is_set(self):
        told = run(*MADE, ("set_prior", 2, 3), ("preview_merge", 0, 1, 2), ("preview_merge", 1, 1, 1))
        # Signal 2 pays 6 * 1/3 * 1/3 - 4 * 2/3 * 1/6 = 2/9; seen as one with the others, nothing does.
        self.assertEqual(told[7:], [[0, 3, 4, 2, 9], [0, 3, 5, 0, 1]])

    def test_it_changes_nothing(self):
        before = last(*MADE, ("get_settings",))
        for mapping in ((0, 1, 2), (0, 0, 0), (1, 2, 0), (0, 0, 2)):
            with self.subTest(mapping):
                told = run(*MADE, ("preview_merge", *mapping), ("get_settings",), ("deterrent_prior",))
                self.assertEqual(told[7], before)
                self.assertEqual(told[8], [0, 3, 4])

    def test_it_tells_what_is_answered_after_the_merge(self):
        for mapping in [(a, b, c) for a in range(3) for b in range(3) for c in range(3)]:
            with self.subTest(mapping):
                told = run(*MADE, ("preview_merge", *mapping), ("merge_signals", *mapping), ("deterrent_prior",),
                           ("expected_profit",))[6:]
                self.assertEqual(told[0], told[2] + told[3][1:])

    def test_no_deterrent_prior_afterwards(self):
        self.assertEqual(last(*HIDDEN, ("preview_merge", 0, 1)), [-33])
        self.assertEqual(last(*HIDDEN, ("preview_merge", 1, 0)), [-33])
        self.assertEqual(last(*HIDDEN, ("set_stakes", 3, 0), ("preview_merge", 0, 0)), [-33])

    def test_one_that_brings_a_deterrent_prior(self):
        self.assertEqual(last(*HIDDEN, ("deterrent_prior",)), [-33])
        self.assertEqual(last(*HIDDEN, ("preview_merge", 0, 0)), [0, 1, 2, 0, 1])
        self.assertEqual(last(*HIDDEN, ("preview_merge", 1, 1)), [0, 1, 2, 0, 1])

    def test_without_a_gain(self):
        self.assertEqual(last(*HIDDEN, ("set_stakes", 0, 5), ("preview_merge", 0, 1)), [0, 0, 1, 0, 1])
        self.assertEqual(last(*HIDDEN, ("set_stakes", 0, 0), ("preview_merge", 1, 1)), [0, 0, 1, 0, 1])

    def test_a_refusal_changes_nothing(self):
        told = run(*HIDDEN, ("preview_merge", 1, 0), ("get_settings",))
        self.assertEqual(told[3:], [[-33], [2, 1, 2, 1, 1, 1, 1, 0, 1, 1, 1]])


class WrongMappings(unittest.TestCase):
    def test_each_is_refused_and_changes_nothing(self):
        before = last(*MADE, ("get_settings",))
        for name in NAMES:
            for mapping in WRONG:
                with self.subTest(name=name, mapping=mapping):
                    self.assertEqual(run(*MADE, (name, *mapping), ("get_settings",))[6:], [[-22], before])

    def test_this_comes_before_no_such_prior(self):
        for mapping in WRONG:
            with self.subTest(mapping):
                self.assertEqual(last(*MADE, ("set_stakes", 9, 0), ("preview_merge", *mapping)), [-22])

    def test_the_limits_for_each_count_of_signals(self):
        for name, done in (("preview_merge", [0, 1, 2, 0, 1]), ("merge_signals", [0])):
            for count in range(1, 6):
                for length in range(9):
                    with self.subTest(name=name, count=count, length=length):
                        told = last(("create", count), (name, *[0] * length))
                        self.assertEqual(told, done if length == count else [-22])
                for place in range(count):
                    mapping = [0] * count
                    mapping[place] = count - 1
                    self.assertEqual(last(("create", count), (name, *mapping)), done)
                    for beyond in (count, count + 1, HUGE):
                        mapping[place] = beyond
                        self.assertEqual(last(("create", count), (name, *mapping)), [-22])


if __name__ == "__main__":
    unittest.main()
