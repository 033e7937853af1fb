import unittest

from tests.helper import CREATE, after, last, with_breaks, with_days

MOST = 4294967295


class OptimalBreaksTest(unittest.TestCase):
    def test_effort_and_days(self):
        for growths, answers in (
                ((7,), ([49, 0],)),
                ((1, 2, 3), ([36, 2], [18, 1, 2], [14, 0, 1, 2])),
                ((4, 1, 1, 4), ([100, 3], [50, 1, 3], [36, 0, 2, 3], [34, 0, 1, 2, 3])),
                ((30, 0), ([900, 1], [900, 0, 1]))):
            for at, answer in enumerate(answers):
                with self.subTest(growths=growths, break_count=at + 1):
                    self.assertEqual(last(*with_days(*growths), ("optimal_breaks", at + 1)), answer)

    def test_ties_go_to_the_lexicographically_smallest_list(self):
        for growths, break_count, answer in (
                ((1, 1, 1), 2, [5, 0, 2]),
                ((0, 0, 5), 2, [25, 0, 2]),
                ((5, 0, 0), 2, [25, 0, 2]),
                ((2, 0, 2), 2, [8, 0, 2]),
                ((0, 0, 0, 0), 3, [0, 0, 1, 3]),
                ((1, 1, 1, 1, 1), 2, [13, 1, 4]),
                ((1, 1, 1, 1, 1), 3, [9, 0, 2, 4]),
                ((1, 1, 1, 1, 1), 4, [7, 0, 1, 2, 4]),
                ([30] * 10, 4, [23400, 1, 3, 6, 9])):
            with self.subTest(growths=growths, break_count=break_count):
                self.assertEqual(last(*with_days(*growths), ("optimal_breaks", break_count)), answer)

    def test_limit(self):
        days = with_days(1, 5, 2, 3)
        for max_thickness, answers in (
                (11, ([121, 3], [61, 1, 3], [49, 1, 2, 3], [39, 0, 1, 2, 3])),
                (10, ([-33], [61, 1, 3], [49, 1, 2, 3], [39, 0, 1, 2, 3])),
                (6, ([-33], [61, 1, 3], [49, 1, 2, 3], [39, 0, 1, 2, 3])),
                (5, ([-33], [-33], [51, 0, 1, 3], [39, 0, 1, 2, 3])),
                (4, ([-33], [-33], [-33], [-33])),
                (0, ([-33], [-33], [-33], [-33]))):
            for at, answer in enumerate(answers):
                with self.subTest(max_thickness=max_thickness, break_count=at + 1):
                    calls = days + [("set_max_thickness", max_thickness), ("optimal_breaks", at + 1)]
                    self.assertEqual(last(*calls), answer)

    def test_no_ice_within_limit_0(self):
        calls = with_days(0, 0, 0) + [("set_max_thickness", 0)]
        answered = after(calls, *[("optimal_breaks", break_count) for break_count in (1, 2, 3)])
        self.assertEqual(answered, [[0, 2], [0, 0, 2], [0, 0, 1, 2]])

    def test_trip_cost_does_not_count(self):
        self.assertEqual(last(*with_days(1, 2, 3), ("set_trip_cost", 9999), ("optimal_breaks", 3)), [14, 0, 1, 2])

    def test_schedule_does_not_count(self):
        self.assertEqual(last(*with_breaks((1, 2, 3), (0, 1)), ("optimal_breaks", 2)), [18, 1, 2])

    def test_greatest_effort(self):
        self.assertEqual(last(*with_days(*[30] * 10), ("optimal_breaks", 1)), [90000, 9])
        self.assertEqual(last(*with_days(*[30] * 10), ("optimal_breaks", 10)), [9000, *range(10)])


class UseOptimalBreaksTest(unittest.TestCase):
    def test_schedule_is_replaced(self):
        for breaks in ((), (0,), (2,), (0, 1, 2)):
            calls = with_breaks((1, 2, 3), breaks)
            with self.subTest(breaks=breaks):
                answered = after(
                    calls, ("use_optimal_breaks", 2), ("list_breaks",), ("use_optimal_breaks", 1), ("list_breaks",))
                self.assertEqual(answered, [[18], [2, 1, 2], [36], [1, 2]])

    def test_limit_and_ties(self):
        calls = with_days(1, 5, 2, 3) + [("set_max_thickness", 5)]
        self.assertEqual(after(calls, ("use_optimal_breaks", 3), ("list_breaks",)), [[51], [3, 0, 1, 3]])
        calls = with_days(1, 1, 1)
        self.assertEqual(after(calls, ("use_optimal_breaks", 2), ("list_breaks",)), [[5], [2, 0, 2]])

    def test_later_calls_work_on_the_new_schedule(self):
        calls = with_breaks((1, 2, 3, 4), (0, 3)) + [("use_optimal_breaks", 2)]
        answered = after(
            calls, ("list_breaks",), ("is_valid_schedule",), ("schedule_cost",), ("excess_effort",), ("add_break", 2),
            ("add_break", 0), ("excess_effort",), ("add_break", 1), ("list_breaks",), ("remove_break", 2),
            ("excess_effort",), ("remove_last_day",), ("list_breaks",), ("excess_effort",))
        self.assertEqual(answered, [
            [2, 2, 3], [1], [52, 52], [0], [-17],
            [1], [0 + 1 + 25 + 16 - 34], [2], [4, 0, 1, 2, 3], [3],
            [1 + 4 + 49 - 34], [3], [2, 0, 1], [-33]])

    def test_optimal_breaks_are_found_anew_behind_a_change(self):
        calls = with_days(1, 2, 3) + [("use_optimal_breaks", 2), ("remove_break", 1), ("add_break", 0)]
        self.assertEqual(
            after(calls, ("list_breaks",), ("optimal_breaks", 2), ("use_optimal_breaks", 2), ("list_breaks",)),
            [[2, 0, 2], [18, 1, 2], [18], [2, 1, 2]])


class OptimalErrorsTest(unittest.TestCase):
    def both(self, calls, break_count):
        answered = after(calls, ("optimal_breaks", break_count), ("use_optimal_breaks", break_count), ("list_breaks",))
        self.assertEqual(answered[0], answered[1])
        return answered[0]

    def test_more_breaks_than_days(self):
        for break_count in (4, 5, MOST):
            with self.subTest(break_count=break_count):
                self.assertEqual(self.both(with_days(1, 2, 3), break_count), [-22])
        self.assertEqual(self.both(with_days(*[0] * 10), 11), [-22])

    def test_no_valid_list(self):
        for break_count in (0, 1, 2):
            with self.subTest(break_count=break_count):
                calls = with_days(1, 2, 3) + [("set_max_thickness", 2)]
                self.assertEqual(self.both(calls, break_count), [-33])

    def test_more_breaks_than_days_comes_ahead_of_no_valid_list(self):
        calls = with_days(1, 2, 3) + [("set_max_thickness", 2)]
        self.assertEqual(self.both(calls, 3), [-33])
        self.assertEqual(self.both(calls, 4), [-22])

    def test_no_breaks(self):
        self.assertEqual(self.both(with_days(1, 2, 3), 0), [-33])
        self.assertEqual(self.both(with_days(0), 0), [-33])

    def test_no_days(self):
        self.assertEqual(self.both([CREATE], 0), [0])
        self.assertEqual(self.both([CREATE, ("set_max_thickness", 0)], 0), [0])
        self.assertEqual(self.both([CREATE], 1), [-22])

    def test_schedule_of_no_days_can_be_used(self):
        calls = [CREATE, ("use_optimal_breaks", 0), ("add_day", 4), ("add_break", 0), ("list_breaks",)]
        self.assertEqual(after(calls[:1], *calls[1:]), [[0], [0], [4], [1, 0]])


class ExcessEffortTest(unittest.TestCase):
    def excess(self, growths, breaks, max_thickness=999):
        return last(*with_breaks(growths, breaks), ("set_max_thickness", max_thickness), ("excess_effort",))

    def test_valid_schedule(self):
        for growths, breaks, excess in (
                ((1, 2, 3), (2,), 0), ((1, 2, 3), (0, 2), 8), ((1, 2, 3), (1, 2), 0), ((1, 2, 3), (0, 1, 2), 0),
                ((4, 1, 1, 4), (0, 1, 3), 6), ((1, 1, 1), (1, 2), 0), ([30] * 10, (0, 9), 28800)):
            with self.subTest(growths=growths, breaks=breaks):
                self.assertEqual(self.excess(growths, breaks), [excess])

    def test_optimal_effort_keeps_to_the_limit_too(self):
        self.assertEqual(self.excess((1, 5, 2, 3), (0, 1, 3), 6), [2])
        self.assertEqual(self.excess((1, 5, 2, 3), (0, 1, 3), 5), [0])

    def test_trip_cost_does_not_count(self):
        calls = with_breaks((1, 2, 3), (0, 2)) + [("set_trip_cost", 100), ("excess_effort",)]
        self.assertEqual(last(*calls), [8])

    def test_schedule_that_is_not_valid(self):
        self.assertEqual(self.excess((1, 2, 3), ()), [-33])
        self.assertEqual(self.excess((1, 2, 3), (1,)), [-33])
        self.assertEqual(self.excess((1, 2, 3), (0, 1)), [-33])
        self.assertEqual(self.excess((1, 2, 3), (0, 2), 5), [8])
        self.assertEqual(self.excess((1, 2, 3), (0, 2), 4), [-33])

    def test_no_days(self):
        self.assertEqual(self.excess((), ()), [0])
        self.assertEqual(self.excess((), (), 0), [0])


class SavingOfBreakTest(unittest.TestCase):
    def test_saving(self):
        days = with_days(4, 1, 1, 4)
        savings = [last(*days, ("saving_of_break", k)) for k in (2, 3, 4)]
        self.assertEqual(savings, [[50], [14], [2]])

    def test_range(self):
        days = with_days(1, 2, 3)
        for k, answer in ((0, -22), (1, -22), (2, 18), (3, 4), (4, -22), (MOST, -22)):
            with self.subTest(k=k):
                self.assertEqual(last(*days, ("saving_of_break", k)), [answer])

    def test_fewer_than_two_days(self):
        for days in ([CREATE], with_days(7)):
            for k in (0, 1, 2, 3):
                with self.subTest(days=days, k=k):
                    self.assertEqual(last(*days, ("saving_of_break", k)), [-22])

    def test_limit_trip_cost_and_schedule_do_not_count(self):
        for max_thickness in (0, 2, 3, 5, 999):
            calls = with_breaks((1, 2, 3), (0,)) + [("set_max_thickness", max_thickness), ("set_trip_cost", 99)]
            with self.subTest(max_thickness=max_thickness):
                self.assertEqual(after(calls, ("saving_of_break", 2), ("saving_of_break", 3)), [[18], [4]])


class BalancedEffortTest(unittest.TestCase):
    def test_effort(self):
        days = with_days(*[1] * 10)
        efforts = [last(*days, ("balanced_effort", k)) for k in range(1, 11)]
        self.assertEqual(efforts, [[100], [50], [34], [26], [20], [18], [16], [14], [12], [10]])

    def test_growths_limit_trip_cost_and_schedule_do_not_count(self):
        for growths in ((0, 0, 0, 0, 0), (30, 1, 7, 0, 3), (30,) * 5):
            calls = with_breaks(growths, (0, 2)) + [("set_max_thickness", 0), ("set_trip_cost", 99)]
            with self.subTest(growths=growths):
                answered = after(calls, *[("balanced_effort", k) for k in range(1, 6)])
                self.assertEqual(answered, [[25], [13], [9], [7], [5]])

    def test_range(self):
        days = with_days(5, 6, 7)
        for k, answer in ((0, -22), (1, 9), (2, 5), (3, 3), (4, -22), (MOST, -22)):
            with self.subTest(k=k):
                self.assertEqual(last(*days, ("balanced_effort", k)), [answer])

    def test_no_days(self):
        for k in (0, 1, MOST):
            with self.subTest(k=k):
                self.assertEqual(last(CREATE, ("balanced_effort", k)), [-22])


if __name__ == "__main__":
    unittest.main()
