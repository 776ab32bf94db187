"""How calls are handed in and answers given back, and what holds of every operation."""

import unittest

from deterrence.desk import answers
from calling import HUGE, NUMBERS, last, run, written

ONE_OF_EACH = [
    ("set_test_weights", 3, 2),
    ("set_production_weights", 1, 3),
    ("set_prior", 1, 3),
    ("set_stakes", 4, 1),
    ("set_prices", 5, 6),
    ("cheating_value", 0),
    ("cheating_signals",),
    ("expected_profit",),
    ("expected_profit_of", 1),
    ("detection_probability",),
    ("harm_probability",),
    ("total_cost",),
    ("deterrent_prior_at", 0),
    ("deterrent_prior",),
    ("preview_merge", 0, 0),
    ("merge_signals", 1, 1),
    ("cheapest_prior",),
    ("cheating_signals_for_prior", 1, 9),
    ("cheating_signals_for_stakes", 8, 1),
    ("get_settings",),
]

THAT_CHANGE = ("set_test_weights", "set_production_weights", "set_prior", "set_stakes", "set_prices", "merge_signals")

REFUSED = [
    ("create", 0),
    ("create", 6),
    ("create", HUGE),
    ("set_test_weights", 7),
    ("set_test_weights", 7, 100),
    ("set_test_weights", 0, 0),
    ("set_production_weights", 7, 7, 7),
    ("set_production_weights", 100, 7),
    ("set_production_weights", 0, 0),
    ("set_prior", 0, 0),
    ("set_prior", 3, 2),
    ("set_prior", 1, 100),
    ("set_stakes", 7, 1000),
    ("set_stakes", 1000, 7),
    ("set_prices", 7, 1000),
    ("set_prices", 1000, 7),
    ("cheating_value", 2),
    ("expected_profit_of", 4),
    ("deterrent_prior_at", 2),
    ("deterrent_prior_at", HUGE),
    ("preview_merge", 0),
    ("preview_merge", 0, 2),
    ("preview_merge",),
    ("merge_signals", 0, 0, 0),
    ("merge_signals", 2, 0),
    ("merge_signals",),
    ("cheating_signals_for_prior", 0, 0),
    ("cheating_signals_for_prior", 3, 2),
    ("cheating_signals_for_prior", 1, 100),
    ("cheating_signals_for_stakes", 7, 1000),
    ("cheating_signals_for_stakes", 1000, 7),
]

# What these answer together depends on every field of the setting.
SHOWN = [
    ("get_settings",),
    ("cheating_value", 0),
    ("cheating_value", 1),
    ("cheating_value", 2),
    ("expected_profit_of", 3),
    ("detection_probability",),
    ("set_prior", 1, 2),
    ("set_stakes", 1, 1),
    ("set_prices", 1, 1),
]


class GuardedList(list):
    """A list that can be read only."""

    def refuse(self, *arguments, **named):
        raise AssertionError("what is handed in is changed")

    append = extend = insert = pop = remove = clear = sort = reverse = refuse
    __setitem__ = __delitem__ = __iadd__ = __imul__ = refuse


class Form(unittest.TestCase):
    def test_the_example_number_by_number(self):
        calls = [0, 1, 2, 0, 1, 2, 3, 1, 0, 2, 2, 1, 3, 0, 4, 2, 4, 1, 0, 6, 1, 0, 0, 7, 0, 0]
        told = [1, 0, 1, 4, 1, 4, 3, 0, 1, 1, 3, 0, 1, 8, 3, 2, 0, 1]
        self.assertEqual(answers(calls), told)

    def test_a_refusal_is_one_number(self):
        self.assertEqual(answers([7, 0, 0]), [1, -11])
        self.assertEqual(answers([0, 1, 6, 0]), [1, -22])
        self.assertEqual(answers([0, 1, 1, 0, 6, 1, 1, 0]), [1, 0, 1, -2])

    def test_weights_without_any_are_one_call(self):
        self.assertEqual(answers([0, 1, 1, 0, 1, 0, 0, 7, 0, 0]), [1, 0, 1, -22, 1, 0])

    def test_sixty_calls(self):
        calls = written([("create", 5)] + [("set_test_weights", 1, 2, 3, 4, 5)] * 59)
        self.assertEqual(answers(calls), [1, 0] + [1, 15] * 59)

    def test_every_number_is_an_int(self):
        told = answers(written([("create", 2)] + ONE_OF_EACH + REFUSED))
        self.assertIs(type(told), list)
        self.assertEqual({type(number) for number in told}, {int})

    def test_what_is_handed_in_stays_as_it_was(self):
        calls = written([("create", 2)] + ONE_OF_EACH + REFUSED)
        before = list(calls)
        answers(calls)
        self.assertEqual(calls, before)

    def test_what_is_handed_in_is_never_changed_for_a_while(self):
        calls = written([("create", 2)] + ONE_OF_EACH + REFUSED)
        self.assertEqual(answers(GuardedList(calls)), answers(calls))

    def test_what_is_given_back_is_new_each_time(self):
        calls = written([("create", 2), ("cheating_signals",)])
        first = answers(calls)
        first.append(7)
        self.assertEqual(answers(calls), [1, 0, 1, 0])


class Independence(unittest.TestCase):
    def test_a_second_list_has_no_setting_at_the_beginning(self):
        self.assertEqual(run(("create", 2), ("cheating_signals",)), [[0], [0]])
        self.assertEqual(run(("cheating_signals",)), [[-11]])

    def test_a_second_list_knows_nothing_of_the_first(self):
        run(("create", 2), *ONE_OF_EACH)
        told = run(("create", 2), *SHOWN)
        self.assertEqual(told, [[0], [2, 1, 2, 1, 1, 1, 1, 1, 1, 1, 1], [0, 0, 1], [0, 0, 1], [-2],
                                [0, 0, 1], [0, 0, 1], [0, 1, 2], [0, 1, 1], [0, 1, 1]])

    def test_the_same_list_is_answered_the_same_each_time(self):
        calls = written([("create", 2)] + ONE_OF_EACH)
        self.assertEqual(answers(calls), answers(calls))


class NoSetting(unittest.TestCase):
    def test_each_operation_but_create_is_refused(self):
        self.assertEqual({name for name, *_ in ONE_OF_EACH} | {"create"}, set(NUMBERS))
        for operation in ONE_OF_EACH:
            with self.subTest(operation):
                self.assertEqual(run(operation), [[-11]])

    def test_this_check_comes_before_all_others(self):
        for operation in REFUSED:
            if operation[0] != "create":
                with self.subTest(operation):
                    self.assertEqual(run(operation), [[-11]])

    def test_there_is_none_after_a_create_that_failed(self):
        for operation in ONE_OF_EACH:
            with self.subTest(operation):
                self.assertEqual(run(("create", 0), operation), [[-22], [-11]])

    def test_an_operation_refused_for_it_sets_nothing(self):
        told = run(("set_stakes", 5, 6), ("create", 1), ("set_stakes", 1, 1))
        self.assertEqual(told, [[-11], [0], [0, 1, 1]])


class Refused(unittest.TestCase):
    MADE = [("create", 2), ("set_test_weights", 3, 1), ("set_production_weights", 1, 4),
            ("set_prior", 2, 7), ("set_stakes", 9, 5), ("set_prices", 11, 13)]

    def test_a_refused_operation_changes_nothing(self):
        plain = run(*self.MADE, *SHOWN)[len(self.MADE):]
        for operation in REFUSED:
            with self.subTest(operation):
                told = run(*self.MADE, operation, *SHOWN)
                self.assertIn(told[len(self.MADE)], ([-22], [-2]))
                self.assertEqual(told[len(self.MADE) + 1:], plain)

    def test_an_operation_that_only_asks_changes_nothing(self):
        plain = run(*self.MADE, *SHOWN)[len(self.MADE):]
        for operation in ONE_OF_EACH:
            if operation[0] not in THAT_CHANGE:
                with self.subTest(operation):
                    told = run(*self.MADE, operation, *SHOWN)
                    self.assertEqual(told[len(self.MADE) + 1:], plain)

    def test_an_operation_that_sets_something_changes_it(self):
        plain = last(*self.MADE, ("get_settings",))
        for operation in ONE_OF_EACH:
            if operation[0] in THAT_CHANGE:
                with self.subTest(operation):
                    self.assertNotEqual(last(*self.MADE, operation, ("get_settings",)), plain)

    def test_a_prior_that_does_not_exist_changes_nothing(self):
        made = [*self.MADE, ("set_stakes", 9, 0)]
        before = last(*made, ("get_settings",))
        for operation in (("deterrent_prior_at", 1), ("deterrent_prior",), ("preview_merge", 0, 0)):
            with self.subTest(operation):
                self.assertEqual(run(*made, operation, ("get_settings",))[7:], [[-33], before])

    def test_an_instance_goes_on_after_a_refusal(self):
        self.assertEqual(last(*self.MADE, *REFUSED, ("set_stakes", 1, 1)), [0, 9, 5])


if __name__ == "__main__":
    unittest.main()
