import unittest

from tests.helper import CREATE, last, run, with_breaks, with_days

MOST = 4294967295


class AddDayTest(unittest.TestCase):
    def test_days_are_numbered_from_0(self):
        self.assertEqual(run(*with_days(1, 2, 3)), [[0], [0], [1], [2]])

    def test_growth_range(self):
        for growth, answer in ((0, 0), (1, 0), (29, 0), (30, 0), (31, -22), (MOST, -22)):
            with self.subTest(growth=growth):
                self.assertEqual(last(CREATE, ("add_day", growth)), [answer])

    def test_growth_is_kept(self):
        self.assertEqual(last(*with_days(0, 30, 7), ("list_growth",)), [3, 0, 30, 7])

    def test_at_most_10_days(self):
        ten = with_days(*range(10))
        self.assertEqual(last(*ten), [9])
        self.assertEqual(last(*ten, ("add_day", 30)), [-28])
        self.assertEqual(last(*ten, ("add_day", 0)), [-28])

    def test_growth_is_checked_ahead_of_the_number_of_days(self):
        ten = with_days(*range(10))
        self.assertEqual(last(*ten, ("add_day", 31)), [-22])
        self.assertEqual(last(*ten, ("add_day", MOST)), [-22])

    def test_day_is_free_again(self):
        ten = with_days(*range(10))
        self.assertEqual(run(*ten, ("remove_last_day",), ("add_day", 8), ("add_day", 8))[-3:], [[9], [9], [-28]])


class RemoveLastDayTest(unittest.TestCase):
    def test_no_days(self):
        self.assertEqual(last(CREATE, ("remove_last_day",)), [-6])
        self.assertEqual(run(*with_days(1), ("remove_last_day",), ("remove_last_day",))[-2:], [[0], [-6]])

    def test_last_day_goes(self):
        calls = with_days(1, 2, 3) + [("remove_last_day",), ("list_growth",), ("remove_last_day",), ("list_growth",)]
        self.assertEqual(run(*calls)[-4:], [[2], [2, 1, 2], [1], [1, 1]])

    def test_break_on_that_day_goes(self):
        calls = with_breaks((1, 2, 3), (0, 2)) + [("remove_last_day",), ("list_breaks",), ("thickness_per_break",)]
        self.assertEqual(run(*calls)[-3:], [[2], [1, 0], [1, 1]])

    def test_break_does_not_come_back_with_a_new_day(self):
        calls = with_breaks((1, 2), (1,)) + [("remove_last_day",), ("add_day", 2), ("list_breaks",), ("add_break", 1)]
        self.assertEqual(run(*calls)[-4:], [[1], [1], [0], [3]])

    def test_other_breaks_stay(self):
        calls = with_breaks((1, 2, 3), (0, 1)) + [("remove_last_day",), ("list_breaks",), ("is_valid_schedule",)]
        self.assertEqual(run(*calls)[-3:], [[2], [2, 0, 1], [1]])

    def test_only_day_with_its_break(self):
        calls = with_breaks((5,), (0,)) + [("remove_last_day",), ("list_breaks",), ("is_valid_schedule",)]
        self.assertEqual(run(*calls)[-3:], [[0], [0], [1]])


class SetGrowthTest(unittest.TestCase):
    def test_old_growth_is_answered(self):
        calls = with_days(1, 2, 3) + [("set_growth", 1, 9), ("set_growth", 1, 4), ("list_growth",)]
        self.assertEqual(run(*calls)[-3:], [[2], [9], [3, 1, 4, 3]])

    def test_first_and_last_day(self):
        calls = with_days(1, 2, 3) + [("set_growth", 0, 30), ("set_growth", 2, 0), ("list_growth",)]
        self.assertEqual(run(*calls)[-3:], [[1], [3], [3, 30, 2, 0]])

    def test_growth_range(self):
        for growth, answer in ((0, 5), (30, 5), (31, -22), (MOST, -22)):
            with self.subTest(growth=growth):
                self.assertEqual(last(*with_days(5), ("set_growth", 0, growth)), [answer])

    def test_no_such_day(self):
        self.assertEqual(last(CREATE, ("set_growth", 0, 1)), [-2])
        self.assertEqual(last(*with_days(1, 2), ("set_growth", 2, 1)), [-2])
        self.assertEqual(last(*with_days(1, 2), ("set_growth", MOST, 1)), [-2])

    def test_day_is_checked_ahead_of_growth(self):
        self.assertEqual(last(*with_days(1, 2), ("set_growth", 2, 31)), [-2])
        self.assertEqual(last(*with_days(1, 2), ("set_growth", MOST, MOST)), [-2])

    def test_breaks_stay_and_remove_the_new_thickness(self):
        calls = with_breaks((1, 2, 3), (0, 2)) + [("set_growth", 1, 10), ("list_breaks",), ("thickness_per_break",)]
        self.assertEqual(run(*calls)[-3:], [[2], [2, 0, 2], [2, 1, 13]])


class SettingsTest(unittest.TestCase):
    def test_trip_cost(self):
        calls = [CREATE] + [("set_trip_cost", cost) for cost in (9999, 10000, MOST, 0, 17, 3)]
        self.assertEqual(run(*calls)[1:], [[0], [-22], [-22], [9999], [0], [17]])

    def test_max_thickness(self):
        calls = [CREATE] + [("set_max_thickness", thickness) for thickness in (0, 1000, MOST, 999, 17, 3)]
        self.assertEqual(run(*calls)[1:], [[999], [-22], [-22], [0], [999], [17]])

    def test_settings_are_apart(self):
        calls = [CREATE, ("set_trip_cost", 8), ("set_max_thickness", 9), ("set_trip_cost", 0), ("set_max_thickness", 0)]
        self.assertEqual(run(*calls)[1:], [[0], [999], [8], [9]])


class ListGrowthTest(unittest.TestCase):
    def test_count_and_growths(self):
        self.assertEqual(last(CREATE, ("list_growth",)), [0])
        self.assertEqual(last(*with_days(7), ("list_growth",)), [1, 7])
        self.assertEqual(last(*with_days(*range(20, 30)), ("list_growth",)), [10] + list(range(20, 30)))


class ThicknessBetweenTest(unittest.TestCase):
    def test_thickness_and_effort(self):
        days = with_days(1, 2, 4, 8)
        for first_day, last_day, thickness in ((0, 0, 1), (3, 3, 8), (0, 1, 3), (1, 2, 6), (2, 3, 12), (0, 3, 15)):
            with self.subTest(first_day=first_day, last_day=last_day):
                answer = last(*days, ("thickness_between", first_day, last_day))
                self.assertEqual(answer, [thickness, thickness * thickness])

    def test_least_and_greatest(self):
        self.assertEqual(last(*with_days(0, 0), ("thickness_between", 0, 1)), [0, 0])
        self.assertEqual(last(*with_days(*[30] * 10), ("thickness_between", 0, 9)), [300, 90000])

    def test_breaks_do_not_count(self):
        self.assertEqual(last(*with_breaks((1, 2, 4), (0, 1)), ("thickness_between", 0, 2)), [7, 49])

    def test_no_such_day(self):
        days = with_days(1, 2, 4)
        for first_day, last_day in ((0, 3), (3, 3), (3, 4), (0, MOST), (MOST, MOST)):
            with self.subTest(first_day=first_day, last_day=last_day):
                self.assertEqual(last(*days, ("thickness_between", first_day, last_day)), [-2])
        self.assertEqual(last(CREATE, ("thickness_between", 0, 0)), [-2])

    def test_last_day_ahead_of_first_day(self):
        days = with_days(1, 2, 4)
        for first_day, last_day in ((1, 0), (2, 0), (2, 1)):
            with self.subTest(first_day=first_day, last_day=last_day):
                self.assertEqual(last(*days, ("thickness_between", first_day, last_day)), [-22])

    def test_days_are_checked_ahead_of_their_order(self):
        days = with_days(1, 2, 4)
        for first_day, last_day in ((3, 0), (4, 3), (MOST, 2), (MOST, 5)):
            with self.subTest(first_day=first_day, last_day=last_day):
                self.assertEqual(last(*days, ("thickness_between", first_day, last_day)), [-2])


class TotalGrowthTest(unittest.TestCase):
    def test_sum_of_all_days(self):
        for growths, total in (((), 0), ((0,), 0), ((7,), 7), ((1, 2, 4), 7), ((0, 5, 0), 5), ([30] * 10, 300)):
            with self.subTest(growths=growths):
                self.assertEqual(last(*with_days(*growths), ("total_growth",)), [total])

    def test_breaks_do_not_count(self):
        self.assertEqual(last(*with_breaks((1, 2, 4), (0, 1)), ("total_growth",)), [7])

    def test_changed_and_removed_days(self):
        calls = with_days(1, 2, 4) + [("set_growth", 0, 9), ("total_growth",), ("remove_last_day",), ("total_growth",)]
        self.assertEqual(run(*calls)[-4:], [[1], [15], [2], [11]])


class SummaryTest(unittest.TestCase):
    def test_nothing_there(self):
        self.assertEqual(last(CREATE, ("summary",)), [0, 0, 999, 0])

    def test_numbers_in_their_order(self):
        calls = with_breaks((9, 8, 7), (2, 0)) + [("set_trip_cost", 12), ("set_max_thickness", 45), ("summary",)]
        self.assertEqual(last(*calls), [3, 12, 45, 2])

    def test_each_change_shows(self):
        calls = with_breaks((9, 8, 7), (2, 0)) + [
            ("remove_last_day",), ("summary",), ("remove_break", 0), ("summary",), ("set_trip_cost", 9999),
            ("summary",), ("set_max_thickness", 0), ("summary",), CREATE, ("summary",)]
        self.assertEqual(
            run(*calls)[-9::2], [[2, 0, 999, 1], [2, 0, 999, 0], [2, 9999, 999, 0], [2, 9999, 0, 0], [0, 0, 999, 0]])


if __name__ == "__main__":
    unittest.main()
