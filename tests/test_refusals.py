"""A refused call, and one that only looks, leaves the instance as it was."""

import unittest

from tests.helper import CREATE, after, with_breaks

MOST = 4294967295

LOOKS = [
    ("list_growth",), ("list_breaks",), ("thickness_per_break",), ("is_valid_schedule",), ("schedule_cost",),
    ("total_growth",), ("summary",)]

SETTINGS = [("set_trip_cost", 12), ("set_max_thickness", 45)]

NOTHING_THERE = [CREATE] + SETTINGS
THREE_DAYS = with_breaks((4, 0, 6), (2, 0)) + SETTINGS
NOT_VALID = with_breaks((4, 0, 30, 30), (3, 1)) + SETTINGS
TEN_DAYS = with_breaks(range(10), (9, 4)) + SETTINGS
TOO_THICK = with_breaks((4, 0, 6), (0, 2)) + [("set_trip_cost", 12), ("set_max_thickness", 5)]

REFUSED = (
    (NOTHING_THERE, ("add_day", 31), -22),
    (NOTHING_THERE, ("remove_last_day",), -6),
    (NOTHING_THERE, ("set_growth", 0, 1), -2),
    (NOTHING_THERE, ("set_trip_cost", 10000), -22),
    (NOTHING_THERE, ("set_max_thickness", 1000), -22),
    (NOTHING_THERE, ("thickness_between", 0, 0), -2),
    (NOTHING_THERE, ("add_break", 0), -2),
    (NOTHING_THERE, ("remove_break", 0), -2),
    (NOTHING_THERE, ("optimal_breaks", 1), -22),
    (NOTHING_THERE, ("use_optimal_breaks", 1), -22),
    (NOTHING_THERE, ("saving_of_break", 2), -22),
    (NOTHING_THERE, ("cheapest_with_growth", 0, 1), -2),
    (NOTHING_THERE, ("cheapest_with_max_thickness", 1000), -22),
    (NOTHING_THERE, ("balanced_effort", 1), -22),
    (NOTHING_THERE, ("thickness_at", 0), -2),
    (THREE_DAYS, ("add_day", 31), -22),
    (THREE_DAYS, ("add_day", MOST), -22),
    (THREE_DAYS, ("set_growth", 3, 1), -2),
    (THREE_DAYS, ("set_growth", 3, 31), -2),
    (THREE_DAYS, ("set_growth", 1, 31), -22),
    (THREE_DAYS, ("set_growth", 1, MOST), -22),
    (THREE_DAYS, ("set_trip_cost", 10000), -22),
    (THREE_DAYS, ("set_trip_cost", MOST), -22),
    (THREE_DAYS, ("set_max_thickness", 1000), -22),
    (THREE_DAYS, ("set_max_thickness", MOST), -22),
    (THREE_DAYS, ("thickness_between", 0, 3), -2),
    (THREE_DAYS, ("thickness_between", 3, 0), -2),
    (THREE_DAYS, ("thickness_between", 2, 1), -22),
    (THREE_DAYS, ("add_break", 3), -2),
    (THREE_DAYS, ("add_break", MOST), -2),
    (THREE_DAYS, ("add_break", 0), -17),
    (THREE_DAYS, ("add_break", 2), -17),
    (THREE_DAYS, ("remove_break", 1), -2),
    (THREE_DAYS, ("remove_break", 3), -2),
    (THREE_DAYS, ("optimal_breaks", 0), -33),
    (THREE_DAYS, ("optimal_breaks", 4), -22),
    (THREE_DAYS, ("use_optimal_breaks", 0), -33),
    (THREE_DAYS, ("use_optimal_breaks", 4), -22),
    (THREE_DAYS, ("saving_of_break", 1), -22),
    (THREE_DAYS, ("saving_of_break", 4), -22),
    (THREE_DAYS, ("cheapest_with_growth", 3, 1), -2),
    (THREE_DAYS, ("cheapest_with_growth", 1, 31), -22),
    (THREE_DAYS, ("cheapest_with_max_thickness", 1000), -22),
    (THREE_DAYS, ("cheapest_with_max_thickness", 5), -33),
    (THREE_DAYS, ("balanced_effort", 0), -22),
    (THREE_DAYS, ("balanced_effort", 4), -22),
    (THREE_DAYS, ("thickness_at", 3), -2),
    (NOT_VALID, ("add_day", 31), -22),
    (NOT_VALID, ("set_growth", 4, 1), -2),
    (NOT_VALID, ("set_max_thickness", 1000), -22),
    (NOT_VALID, ("add_break", 1), -17),
    (NOT_VALID, ("remove_break", 2), -2),
    (NOT_VALID, ("excess_effort",), -33),
    (NOT_VALID, ("optimal_breaks", 1), -33),
    (NOT_VALID, ("use_optimal_breaks", 1), -33),
    (TEN_DAYS, ("add_day", 30), -28),
    (TEN_DAYS, ("add_day", 31), -22),
    (TEN_DAYS, ("set_growth", 10, 1), -2),
    (TEN_DAYS, ("add_break", 10), -2),
    (TEN_DAYS, ("add_break", 4), -17),
    (TEN_DAYS, ("remove_break", 0), -2),
    (TEN_DAYS, ("use_optimal_breaks", 11), -22),
    (TEN_DAYS, ("saving_of_break", 11), -22),
    (TEN_DAYS, ("balanced_effort", 11), -22),
    (TEN_DAYS, ("thickness_at", 10), -2),
    (TOO_THICK, ("optimal_breaks", 3), -33),
    (TOO_THICK, ("use_optimal_breaks", 3), -33),
    (TOO_THICK, ("excess_effort",), -33),
    (TOO_THICK, ("min_break_count",), -33),
    (TOO_THICK, ("cheapest_break_count",), -33),
    (TOO_THICK, ("use_cheapest_breaks",), -33),
    (TOO_THICK, ("cheapest_with_growth", 0, 30), -33),
    (TOO_THICK, ("cheapest_with_growth", 2, 30), -33),
    (TOO_THICK, ("cheapest_with_max_thickness", 0), -33),
)

ONLY_LOOKING = LOOKS + [
    ("thickness_between", 0, 0), ("optimal_breaks", 0), ("optimal_breaks", 1), ("optimal_breaks", 2),
    ("excess_effort",), ("saving_of_break", 2), ("min_break_count",), ("cheapest_break_count",),
    ("cheapest_with_growth", 0, 30), ("cheapest_with_growth", 2, 1), ("cheapest_with_max_thickness", 7),
    ("cheapest_with_max_thickness", 999), ("balanced_effort", 1), ("thickness_at", 0)]


class RefusedCallTest(unittest.TestCase):
    def test_refused_call_leaves_everything_as_it_was(self):
        for calls, refused, code in REFUSED:
            with self.subTest(calls=calls, refused=refused):
                count = len(LOOKS)
                answered = after(calls, *LOOKS, refused, *LOOKS)
                self.assertEqual(answered[count], [code])
                self.assertEqual(answered[count + 1:], answered[:count])

    def test_refused_call_of_one_list_after_another(self):
        for calls in (NOTHING_THERE, THREE_DAYS, NOT_VALID, TEN_DAYS, TOO_THICK):
            all_refused = [refused for other, refused, _ in REFUSED if other is calls]
            codes = [[code] for other, _, code in REFUSED if other is calls]
            count = len(LOOKS)
            for start in range(0, len(codes), 20):
                with self.subTest(calls=calls, start=start):
                    answered = after(calls, *all_refused[start:start + 20], *LOOKS)
                    self.assertEqual(answered[:-count], codes[start:start + 20])
                    self.assertEqual(answered[-count:], after(calls, *LOOKS))


class LookingTest(unittest.TestCase):
    def test_looking_changes_nothing(self):
        for calls in (NOTHING_THERE, THREE_DAYS, NOT_VALID, TEN_DAYS, TOO_THICK):
            for look in ONLY_LOOKING:
                with self.subTest(calls=calls, look=look):
                    count = len(LOOKS)
                    answered = after(calls, *LOOKS, look, *LOOKS, look)
                    self.assertEqual(answered[count + 1:-1], answered[:count])
                    self.assertEqual(answered[-1], answered[count])


if __name__ == "__main__":
    unittest.main()
