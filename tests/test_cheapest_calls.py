import unittest

from tests.helper import CREATE, after, last, with_breaks, with_days

MOST = 4294967295


class MinBreakCountTest(unittest.TestCase):
    def test_smallest_number(self):
        for growths, max_thickness, break_count in (
                ((1, 2, 3), 999, 1), ((1, 2, 3), 6, 1), ((1, 2, 3), 5, 2), ((1, 2, 3), 3, 2),
                ((3, 3, 3), 6, 2), ((3, 3, 3), 5, 3), ((3, 1, 3), 3, 3), ((0, 0, 0), 0, 1), ([30] * 10, 299, 2),
                ([30] * 10, 59, 10), ((0, 5, 0, 5, 0), 5, 2)):
            with self.subTest(growths=growths, max_thickness=max_thickness):
                calls = with_days(*growths) + [("set_max_thickness", max_thickness), ("min_break_count",)]
                self.assertEqual(last(*calls), [break_count])

    def test_trip_cost_and_schedule_do_not_count(self):
        self.assertEqual(last(*with_breaks((1, 2, 3), (0, 1)), ("set_trip_cost", 0), ("min_break_count",)), [1])
        self.assertEqual(last(*with_breaks((1, 2, 3), (0, 1)), ("set_trip_cost", 99), ("min_break_count",)), [1])


class CheapestBreakCountTest(unittest.TestCase):
    def test_number_and_total_cost(self):
        days = with_days(1, 2, 3)
        for trip_cost, answer in (
                (0, [3, 14]), (3, [3, 23]), (5, [2, 28]), (10, [2, 38]), (17, [2, 52]), (19, [1, 55]),
                (9999, [1, 10035])):
            with self.subTest(trip_cost=trip_cost):
                self.assertEqual(last(*days, ("set_trip_cost", trip_cost), ("cheapest_break_count",)), answer)

    def test_ties_go_to_the_smaller_number(self):
        days = with_days(1, 2, 3)
        self.assertEqual(last(*days, ("set_trip_cost", 4), ("cheapest_break_count",)), [2, 26])
        self.assertEqual(last(*days, ("set_trip_cost", 18), ("cheapest_break_count",)), [1, 54])
        for growths, answer in (((0, 0, 0), [1, 0]), ((0, 4, 0), [1, 16]), ((3, 0, 0, 4), [2, 25])):
            with self.subTest(growths=growths):
                self.assertEqual(last(*with_days(*growths), ("cheapest_break_count",)), answer)

    def test_limit(self):
        calls = with_days(1, 2, 3) + [("set_trip_cost", 9999)]
        for max_thickness, answer in ((6, [1, 10035]), (5, [2, 20016]), (3, [2, 20016]), (2, [-33])):
            with self.subTest(max_thickness=max_thickness):
                self.assertEqual(
                    last(*calls, ("set_max_thickness", max_thickness), ("cheapest_break_count",)), answer)

    def test_schedule_does_not_count(self):
        calls = with_breaks((1, 2, 3), (0,)) + [("set_trip_cost", 10), ("cheapest_break_count",)]
        self.assertEqual(last(*calls), [2, 38])

    def test_greatest_cost(self):
        calls = with_days(*[30] * 10) + [("set_trip_cost", 9999)]
        self.assertEqual(last(*calls, ("cheapest_break_count",)), [3, 34 * 900 + 3 * 9999])
        self.assertEqual(
            last(*calls, ("set_max_thickness", 30), ("cheapest_break_count",)), [10, 9000 + 10 * 9999])


class UseCheapestBreaksTest(unittest.TestCase):
    def test_schedule_is_replaced(self):
        for breaks in ((), (0,), (0, 1, 2)):
            calls = with_breaks((1, 2, 3), breaks) + [("set_trip_cost", 10)]
            with self.subTest(breaks=breaks):
                answered = after(
                    calls, ("use_cheapest_breaks",), ("list_breaks",), ("schedule_cost",), ("set_trip_cost", 0),
                    ("use_cheapest_breaks",), ("list_breaks",), ("schedule_cost",))
                self.assertEqual(answered, [[38], [2, 1, 2], [18, 38], [10], [14], [3, 0, 1, 2], [14, 14]])

    def test_ties(self):
        calls = with_days(1, 1, 1) + [("set_trip_cost", 2)]
        self.assertEqual(after(calls, ("use_cheapest_breaks",), ("list_breaks",)), [[9], [2, 0, 2]])
        self.assertEqual(after(with_days(0, 0), ("use_cheapest_breaks",), ("list_breaks",)), [[0], [1, 1]])

    def test_limit(self):
        calls = with_days(1, 5, 2, 3) + [("set_max_thickness", 5), ("set_trip_cost", 100)]
        self.assertEqual(after(calls, ("use_cheapest_breaks",), ("list_breaks",)), [[351], [3, 0, 1, 3]])

    def test_later_calls_work_on_the_new_schedule(self):
        calls = with_breaks((1, 2, 3), (0,)) + [("set_trip_cost", 10), ("use_cheapest_breaks",)]
        answered = after(
            calls, ("is_valid_schedule",), ("excess_effort",), ("add_break", 1), ("add_break", 0), ("list_breaks",),
            ("excess_effort",), ("remove_break", 1), ("excess_effort",), ("remove_last_day",), ("list_breaks",),
            ("excess_effort",), ("use_cheapest_breaks",), ("list_breaks",))
        self.assertEqual(answered, [
            [1], [0], [-17], [1], [3, 0, 1, 2],
            [0], [2], [8], [2], [1, 0],
            [-33], [19], [1, 1]])


class NoDaysTest(unittest.TestCase):
    def test_nothing_to_break(self):
        for max_thickness in (0, 999):
            for trip_cost in (0, 9999):
                calls = [CREATE, ("set_max_thickness", max_thickness), ("set_trip_cost", trip_cost)]
                answered = after(
                    calls, ("min_break_count",), ("cheapest_break_count",), ("use_cheapest_breaks",),
                    ("list_breaks",), ("cheapest_with_max_thickness", 0))
                with self.subTest(max_thickness=max_thickness, trip_cost=trip_cost):
                    self.assertEqual(answered, [[0], [0, 0], [0], [0], [0, 0]])


class NoValidListTest(unittest.TestCase):
    def test_growth_of_one_day_is_above_the_limit(self):
        for growths, max_thickness in (((1,), 0), ((1, 2, 3), 2), ((3, 1, 1), 2), ((1, 3, 1), 2), ([30] * 10, 29)):
            calls = with_breaks(growths, (0,)) + [("set_max_thickness", max_thickness)]
            answered = after(
                calls, ("min_break_count",), ("cheapest_break_count",), ("use_cheapest_breaks",), ("list_breaks",),
                ("set_max_thickness", max_thickness + 1), ("min_break_count",))
            with self.subTest(growths=growths, max_thickness=max_thickness):
                self.assertEqual(answered[:5], [[-33], [-33], [-33], [1, 0], [max_thickness]])
                self.assertGreater(answered[5], [0])


class CheapestWithGrowthTest(unittest.TestCase):
    def test_number_and_total_cost(self):
        calls = with_days(1, 2, 3) + [("set_trip_cost", 10)]
        for day, growth, answer in (
                (0, 0, [2, 33]), (0, 1, [2, 38]), (0, 30, [3, 943]), (1, 2, [2, 38]), (1, 0, [1, 26]),
                (2, 0, [1, 19]), (2, 30, [2, 929])):
            with self.subTest(day=day, growth=growth):
                self.assertEqual(last(*calls, ("cheapest_with_growth", day, growth)), answer)

    def test_instance_is_not_changed(self):
        calls = with_days(1, 2, 3) + [("set_trip_cost", 10), ("cheapest_with_growth", 2, 0)]
        self.assertEqual(
            after(calls, ("list_growth",), ("cheapest_break_count",), ("cheapest_with_growth", 0, 1)),
            [[3, 1, 2, 3], [2, 38], [2, 38]])

    def test_limit(self):
        calls = with_days(1, 2, 3) + [("set_max_thickness", 5)]
        self.assertEqual(last(*calls, ("cheapest_with_growth", 2, 5)), [3, 30])
        self.assertEqual(last(*calls, ("cheapest_with_growth", 2, 6)), [-33])

    def test_no_valid_list_but_with_the_growth(self):
        calls = with_days(1, 6) + [("set_max_thickness", 5)]
        self.assertEqual(
            after(calls, ("cheapest_break_count",), ("cheapest_with_growth", 1, 4), ("cheapest_with_growth", 0, 0)),
            [[-33], [2, 17], [-33]])

    def test_errors_in_order(self):
        calls = with_days(1, 2, 3) + [("set_max_thickness", 5)]
        for day, growth, code in (
                (3, 1, -2), (MOST, 1, -2), (3, 31, -2), (3, 6, -2), (MOST, MOST, -2), (0, 31, -22), (2, MOST, -22),
                (0, 30, -33), (2, 6, -33)):
            with self.subTest(day=day, growth=growth):
                self.assertEqual(last(*calls, ("cheapest_with_growth", day, growth)), [code])
        self.assertEqual(last(CREATE, ("cheapest_with_growth", 0, 0)), [-2])
        self.assertEqual(last(CREATE, ("cheapest_with_growth", 0, 31)), [-2])


class CheapestWithMaxThicknessTest(unittest.TestCase):
    def test_number_and_total_cost(self):
        calls = with_days(1, 2, 3) + [("set_trip_cost", 100)]
        for max_thickness, answer in ((999, [1, 136]), (6, [1, 136]), (5, [2, 218]), (3, [2, 218]), (2, [-33])):
            with self.subTest(max_thickness=max_thickness):
                self.assertEqual(last(*calls, ("cheapest_with_max_thickness", max_thickness)), answer)

    def test_instance_is_not_changed(self):
        calls = with_days(1, 2, 3) + [("set_trip_cost", 100), ("cheapest_with_max_thickness", 5)]
        self.assertEqual(
            after(calls, ("cheapest_break_count",), ("set_max_thickness", 0)), [[1, 136], [999]])

    def test_max_thickness_of_the_instance_does_not_count(self):
        calls = with_days(1, 2, 3) + [("set_trip_cost", 100), ("set_max_thickness", 2)]
        self.assertEqual(
            after(calls, ("cheapest_with_max_thickness", 999), ("cheapest_with_max_thickness", 3)),
            [[1, 136], [2, 218]])

    def test_range(self):
        days = with_days(1, 2, 3)
        for max_thickness, answer in ((999, [3, 14]), (1000, [-22]), (MOST, [-22]), (0, [-33])):
            with self.subTest(max_thickness=max_thickness):
                self.assertEqual(last(*days, ("cheapest_with_max_thickness", max_thickness)), answer)
        self.assertEqual(last(*with_days(0, 0), ("cheapest_with_max_thickness", 0)), [1, 0])
        self.assertEqual(last(CREATE, ("cheapest_with_max_thickness", 1000)), [-22])


if __name__ == "__main__":
    unittest.main()
