import itertools
import unittest

from tests.helper import CREATE, run, with_breaks, with_days

MOST = 4294967295

LOOKS = [("list_growth",), ("list_breaks",), ("thickness_per_break",), ("is_valid_schedule",), ("schedule_cost",)]

SETTINGS = [("set_trip_cost", 12), ("set_max_thickness", 45)]

NOTHING_THERE = [CREATE] + SETTINGS
THREE_DAYS = with_breaks((4, 0, 6), (2, 0)) + SETTINGS
NOT_VALID = with_breaks((4, 0, 30, 30), (3, 1)) + SETTINGS
TEN_DAYS = with_breaks(range(10), (9, 4)) + SETTINGS

REFUSED = (
    (NOTHING_THERE, ("add_day", 31), -22),
    (NOTHING_THERE, ("remove_last_day",), -6),
    (NOTHING_THERE, ("set_growth", 0, 1), -2),
    (NOTHING_THERE, ("set_trip_cost", 10000), -22),
    (NOTHING_THERE, ("set_max_thickness", 1000), -22),
    (NOTHING_THERE, ("thickness_between", 0, 0), -2),
    (NOTHING_THERE, ("add_break", 0), -2),
    (NOTHING_THERE, ("remove_break", 0), -2),
    (THREE_DAYS, ("add_day", 31), -22),
    (THREE_DAYS, ("add_day", MOST), -22),
    (THREE_DAYS, ("set_growth", 3, 1), -2),
    (THREE_DAYS, ("set_growth", 3, 31), -2),
    (THREE_DAYS, ("set_growth", 1, 31), -22),
    (THREE_DAYS, ("set_growth", 1, MOST), -22),
    (THREE_DAYS, ("set_trip_cost", 10000), -22),
    (THREE_DAYS, ("set_trip_cost", MOST), -22),
    (THREE_DAYS, ("set_max_thickness", 1000), -22),
    (THREE_DAYS, ("set_max_thickness", MOST), -22),
    (THREE_DAYS, ("thickness_between", 0, 3), -2),
    (THREE_DAYS, ("thickness_between", 3, 0), -2),
    (THREE_DAYS, ("thickness_between", 2, 1), -22),
    (THREE_DAYS, ("add_break", 3), -2),
    (THREE_DAYS, ("add_break", MOST), -2),
    (THREE_DAYS, ("add_break", 0), -17),
    (THREE_DAYS, ("add_break", 2), -17),
    (THREE_DAYS, ("remove_break", 1), -2),
    (THREE_DAYS, ("remove_break", 3), -2),
    (NOT_VALID, ("add_day", 31), -22),
    (NOT_VALID, ("set_growth", 4, 1), -2),
    (NOT_VALID, ("set_max_thickness", 1000), -22),
    (NOT_VALID, ("add_break", 1), -17),
    (NOT_VALID, ("remove_break", 2), -2),
    (TEN_DAYS, ("add_day", 30), -28),
    (TEN_DAYS, ("add_day", 31), -22),
    (TEN_DAYS, ("set_growth", 10, 1), -2),
    (TEN_DAYS, ("add_break", 10), -2),
    (TEN_DAYS, ("add_break", 4), -17),
    (TEN_DAYS, ("remove_break", 0), -2),
)


class ErrorsTest(unittest.TestCase):
    def test_refused_call_leaves_everything_as_it_was(self):
        for calls, refused, code in REFUSED:
            with self.subTest(calls=calls, refused=refused):
                count = len(LOOKS)
                answered = run(*calls, *LOOKS, refused, *LOOKS, ("set_trip_cost", 0), ("set_max_thickness", 0))
                answered = answered[len(calls):]
                self.assertEqual(answered[count], [code])
                self.assertEqual(answered[count + 1:2 * count + 1], answered[:count])
                self.assertEqual(answered[2 * count + 1:], [[12], [45]])

    def test_looking_changes_nothing(self):
        for calls in (NOTHING_THERE, THREE_DAYS, NOT_VALID, TEN_DAYS):
            with self.subTest(calls=calls):
                looks = LOOKS + [("thickness_between", 0, 0)]
                answered = run(*calls, *looks, *looks, ("set_trip_cost", 0), ("set_max_thickness", 0))
                answered = answered[len(calls):]
                self.assertEqual(answered[:len(looks)], answered[len(looks):-2])
                self.assertEqual(answered[-2:], [[12], [45]])


class CompleteRemovalTest(unittest.TestCase):
    def breaks_of(self, days):
        for count in range(days + 1):
            yield from itertools.combinations(range(days), count)

    def test_breaks_of_a_valid_list_remove_all_the_ice(self):
        seen = {0: 0, 1: 0}
        for growths in ((), (0,), (7,), (0, 0, 3), (5, 0, 1, 2), (3, 1, 4, 1, 5), (30, 0, 30, 0, 30, 1)):
            for breaks in self.breaks_of(len(growths)):
                for max_thickness in (0, 5, 31, 999):
                    calls = with_breaks(growths, breaks[::-1])
                    answered = run(*calls, ("set_max_thickness", max_thickness), *LOOKS)
                    growth, listed, thicknesses, valid, cost = answered[-5:]
                    seen[valid[0]] += 1
                    with self.subTest(growths=growths, breaks=breaks, max_thickness=max_thickness):
                        self.assertEqual(growth, [len(growths), *growths])
                        self.assertEqual(listed, [len(breaks), *breaks])
                        self.assertEqual(thicknesses[0], len(breaks))
                        self.assertEqual(cost[0], sum(thickness ** 2 for thickness in thicknesses[1:]))
                        ends_well = breaks[-1:] == tuple(range(len(growths)))[-1:]
                        within = all(thickness <= max_thickness for thickness in thicknesses[1:])
                        self.assertEqual(valid, [1 if ends_well and within else 0])
                        if valid == [1]:
                            self.assertEqual(sum(thicknesses[1:]), sum(growths))
        self.assertGreater(min(seen.values()), 50)

    def test_each_break_removes_what_grew_since_the_one_before(self):
        growths = (1, 2, 4, 8, 16, 29)
        for breaks in self.breaks_of(len(growths)):
            with self.subTest(breaks=breaks):
                since = [-1, *breaks]
                betweens = [("thickness_between", since[at] + 1, day) for at, day in enumerate(breaks)]
                answered = run(*with_breaks(growths, breaks), ("thickness_per_break",), *betweens)
                answered = answered[len(with_breaks(growths, breaks)):]
                self.assertEqual(answered[0], [len(breaks)] + [answer[0] for answer in answered[1:]])


class ExampleTest(unittest.TestCase):
    def test_example_of_the_document(self):
        calls = with_days(1, 2, 3) + [("set_trip_cost", 10), ("add_break", 1), ("is_valid_schedule",)]
        self.assertEqual(run(*calls), [[0], [0], [1], [2], [0], [3], [0]])


if __name__ == "__main__":
    unittest.main()
