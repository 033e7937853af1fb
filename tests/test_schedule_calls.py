import unittest

from tests.helper import CREATE, last, run, with_breaks, with_days

MOST = 4294967295


class AddBreakTest(unittest.TestCase):
    def test_thickness_since_the_start(self):
        days = with_days(1, 2, 4, 8)
        for day, thickness in ((0, 1), (1, 3), (2, 7), (3, 15)):
            with self.subTest(day=day):
                self.assertEqual(last(*days, ("add_break", day)), [thickness])

    def test_thickness_since_the_last_break_before(self):
        growths = (1, 2, 4, 8, 16)
        for breaks, day, thickness in (
                ((2,), 0, 1), ((2,), 1, 3), ((2,), 3, 8), ((2,), 4, 24),
                ((0, 4), 2, 6), ((0, 4), 3, 14), ((4, 0), 1, 2), ((0, 1), 2, 4), ((1, 0), 3, 12)):
            with self.subTest(breaks=breaks, day=day):
                self.assertEqual(last(*with_breaks(growths, breaks), ("add_break", day)), [thickness])

    def test_break_is_listed_in_its_place(self):
        growths = (1, 2, 4, 8, 16)
        for breaks in ((0, 2, 4), (0, 4, 2), (2, 0, 4), (2, 4, 0), (4, 0, 2), (4, 2, 0)):
            with self.subTest(breaks=breaks):
                calls = with_breaks(growths, breaks) + [("list_breaks",), ("thickness_per_break",)]
                self.assertEqual(run(*calls)[-2:], [[3, 0, 2, 4], [3, 1, 6, 24]])

    def test_no_such_day(self):
        self.assertEqual(last(CREATE, ("add_break", 0)), [-2])
        self.assertEqual(last(*with_days(1, 2), ("add_break", 2)), [-2])
        self.assertEqual(last(*with_days(1, 2), ("add_break", MOST)), [-2])

    def test_day_of_a_removed_day(self):
        calls = with_breaks((1, 2), (1,)) + [("remove_last_day",), ("add_break", 1)]
        self.assertEqual(last(*calls), [-2])

    def test_break_there_already(self):
        self.assertEqual(last(*with_breaks((1, 2, 3), (1,)), ("add_break", 1)), [-17])
        self.assertEqual(last(*with_breaks((1, 2, 3), (0, 1, 2)), ("add_break", 0)), [-17])
        self.assertEqual(last(*with_breaks((1, 2, 3), (0, 1, 2)), ("add_break", 2)), [-17])

    def test_more_than_max_thickness_is_taken(self):
        self.assertEqual(last(*with_days(5, 6), ("set_max_thickness", 0), ("add_break", 1)), [11])

    def test_break_on_each_of_10_days(self):
        calls = with_breaks(range(10), range(10)) + [("list_breaks",)]
        self.assertEqual(last(*calls), [10] + list(range(10)))


class RemoveBreakTest(unittest.TestCase):
    def test_number_of_those_that_remain(self):
        calls = with_breaks((1, 2, 4), (0, 1, 2)) + [
            ("remove_break", 1), ("list_breaks",), ("thickness_per_break",),
            ("remove_break", 2), ("list_breaks",), ("remove_break", 0), ("list_breaks",)]
        self.assertEqual(run(*calls)[-7:], [[2], [2, 0, 2], [2, 1, 6], [1], [1, 0], [0], [0]])

    def test_no_break_on_this_day(self):
        self.assertEqual(last(*with_breaks((1, 2, 4), (0, 2)), ("remove_break", 1)), [-2])
        self.assertEqual(run(*with_breaks((1, 2), (1,)), ("remove_break", 1), ("remove_break", 1))[-2:], [[0], [-2]])

    def test_no_such_day(self):
        self.assertEqual(last(CREATE, ("remove_break", 0)), [-2])
        self.assertEqual(last(*with_breaks((1, 2), (0, 1)), ("remove_break", 2)), [-2])
        self.assertEqual(last(*with_breaks((1, 2), (0, 1)), ("remove_break", MOST)), [-2])

    def test_break_can_be_added_again(self):
        calls = with_breaks((1, 2), (0, 1)) + [("remove_break", 0), ("add_break", 0), ("list_breaks",)]
        self.assertEqual(run(*calls)[-3:], [[1], [1], [2, 0, 1]])


class ListsTest(unittest.TestCase):
    def test_no_breaks(self):
        for calls in ([CREATE], with_days(1, 2)):
            self.assertEqual(last(*calls, ("list_breaks",)), [0])
            self.assertEqual(last(*calls, ("thickness_per_break",)), [0])

    def test_thickness_of_no_ice(self):
        self.assertEqual(last(*with_breaks((0, 0, 5), (0, 1)), ("thickness_per_break",)), [2, 0, 0])

    def test_growth_behind_the_last_break_does_not_count(self):
        self.assertEqual(last(*with_breaks((1, 2, 4, 8), (0, 2)), ("thickness_per_break",)), [2, 1, 6])


class IsValidScheduleTest(unittest.TestCase):
    def valid(self, growths, breaks, max_thickness=999):
        calls = with_breaks(growths, breaks) + [("set_max_thickness", max_thickness), ("is_valid_schedule",)]
        return last(*calls)

    def test_no_days(self):
        self.assertEqual(last(CREATE, ("is_valid_schedule",)), [1])
        self.assertEqual(self.valid((), (), 0), [1])

    def test_no_breaks(self):
        self.assertEqual(self.valid((1, 2), ()), [0])
        self.assertEqual(self.valid((0,), ()), [0])

    def test_last_break_on_the_last_day(self):
        self.assertEqual(self.valid((1, 2, 3), (2,)), [1])
        self.assertEqual(self.valid((1, 2, 3), (2, 0)), [1])
        self.assertEqual(self.valid((1, 2, 3), (0, 1, 2)), [1])

    def test_last_break_not_on_the_last_day(self):
        self.assertEqual(self.valid((1, 2, 3), (1,)), [0])
        self.assertEqual(self.valid((1, 2, 3), (0, 1)), [0])
        self.assertEqual(self.valid((1, 2, 0), (0, 1)), [0])

    def test_max_thickness(self):
        for growths, breaks, greatest in (
                ((1, 2, 4), (2,), 7), ((1, 2, 4), (1, 2), 4), ((5, 2, 1), (0, 2), 5), ((1, 9, 1), (0, 1, 2), 9),
                ((0, 1), (1,), 1), ([30] * 10, (9,), 300)):
            with self.subTest(growths=growths, breaks=breaks):
                self.assertEqual(self.valid(growths, breaks, greatest + 1), [1])
                self.assertEqual(self.valid(growths, breaks, greatest), [1])
                self.assertEqual(self.valid(growths, breaks, greatest - 1), [0])

    def test_max_thickness_0(self):
        self.assertEqual(self.valid((0, 0), (1,), 0), [1])
        self.assertEqual(self.valid((0, 1), (1,), 0), [0])

    def test_new_day_and_its_removal(self):
        calls = with_breaks((1, 2), (1,)) + [
            ("is_valid_schedule",), ("add_day", 0), ("is_valid_schedule",), ("remove_last_day",),
            ("is_valid_schedule",)]
        self.assertEqual(run(*calls)[-5:], [[1], [2], [0], [2], [1]])

    def test_schedule_can_become_valid_again(self):
        calls = with_breaks((4, 4), (1,)) + [
            ("set_max_thickness", 7), ("is_valid_schedule",), ("add_break", 0), ("is_valid_schedule",),
            ("set_growth", 0, 8), ("is_valid_schedule",), ("set_growth", 0, 7), ("is_valid_schedule",)]
        self.assertEqual(run(*calls)[-7:], [[0], [4], [1], [4], [0], [8], [1]])


class ScheduleCostTest(unittest.TestCase):
    def test_no_breaks(self):
        self.assertEqual(last(CREATE, ("set_trip_cost", 10), ("schedule_cost",)), [0, 0])
        self.assertEqual(last(*with_days(1, 2), ("set_trip_cost", 10), ("schedule_cost",)), [0, 0])

    def test_effort_and_total_cost(self):
        calls = with_breaks((1, 2, 3), (1, 2))
        self.assertEqual(last(*calls, ("schedule_cost",)), [18, 18])
        self.assertEqual(last(*calls, ("set_trip_cost", 10), ("schedule_cost",)), [18, 38])
        self.assertEqual(last(*calls, ("add_break", 0), ("set_trip_cost", 10), ("schedule_cost",)), [14, 44])

    def test_greatest_costs(self):
        calls = with_breaks([30] * 10, (9,)) + [("set_trip_cost", 9999), ("schedule_cost",)]
        self.assertEqual(last(*calls), [90000, 99999])
        calls = with_breaks([30] * 10, range(10)) + [("set_trip_cost", 9999), ("schedule_cost",)]
        self.assertEqual(last(*calls), [9000, 108990])

    def test_schedule_that_is_not_valid(self):
        calls = with_breaks((1, 2, 3), (1,)) + [("set_trip_cost", 10)]
        self.assertEqual(run(*calls, ("is_valid_schedule",), ("schedule_cost",))[-2:], [[0], [9, 19]])
        calls = with_breaks((1, 2, 3), (2,)) + [("set_max_thickness", 5), ("set_trip_cost", 1)]
        self.assertEqual(run(*calls, ("is_valid_schedule",), ("schedule_cost",))[-2:], [[0], [36, 37]])


class ThicknessAtTest(unittest.TestCase):
    def test_since_the_last_break_before(self):
        growths = (1, 2, 4, 8, 16)
        for breaks, thicknesses in (
                ((), (1, 3, 7, 15, 31)), ((2,), (1, 3, 7, 8, 24)), ((3, 0), (1, 2, 6, 14, 16)),
                ((0, 1, 2, 3, 4), growths), ((4,), (1, 3, 7, 15, 31))):
            for day, thickness in enumerate(thicknesses):
                with self.subTest(breaks=breaks, day=day):
                    self.assertEqual(last(*with_breaks(growths, breaks), ("thickness_at", day)), [thickness])

    def test_a_break_on_that_day_is_still_to_come(self):
        calls = with_days(5, 6) + [("thickness_at", 1), ("add_break", 1), ("thickness_at", 1)]
        self.assertEqual(run(*calls)[-3:], [[11], [11], [11]])

    def test_a_day_without_growth(self):
        self.assertEqual(last(*with_breaks((5, 0, 3), (0,)), ("thickness_at", 1)), [0])

    def test_limit_does_not_count(self):
        self.assertEqual(last(*with_days(5, 6), ("set_max_thickness", 0), ("thickness_at", 1)), [11])

    def test_no_such_day(self):
        self.assertEqual(last(CREATE, ("thickness_at", 0)), [-2])
        self.assertEqual(last(*with_days(1, 2), ("thickness_at", 2)), [-2])
        self.assertEqual(last(*with_days(1, 2), ("thickness_at", MOST)), [-2])
        self.assertEqual(last(*with_breaks((1, 2), (1,)), ("remove_last_day",), ("thickness_at", 1)), [-2])


if __name__ == "__main__":
    unittest.main()
