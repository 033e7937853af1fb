"""The numbered requirements of the document and its example, call by call."""

import unittest

from tests.helper import CREATE, after, cheapest_by_search, lists_of_breaks, run, search, thicknesses_of
from tests.helper import with_breaks, with_days

GROWTHS = (
    (), (0,), (7,), (0, 0), (3, 3), (0, 0, 0, 0), (1, 2, 3), (5, 0, 0, 5), (1, 5, 2, 3), (0, 4, 0, 4, 0),
    (2, 1, 2, 1, 2, 1), (30, 0, 30, 0, 0, 1), (0, 0, 9, 0, 0, 9, 0), (3, 1, 4, 1, 5, 9, 2, 6), (30,) * 9,
    (1, 1, 2, 3, 5, 8, 13, 21, 0, 0), (0, 30, 0, 0, 17, 17, 0, 0, 30, 0), (4, 4, 4, 4, 4, 4, 4, 4, 4, 4),
    (12, 7, 0, 29, 3, 3, 18, 0, 1, 25), (0,) * 10, (1,) * 10)


class OptimalityTest(unittest.TestCase):
    def test_optimal_breaks_for_every_number_of_breaks(self):
        for growths in GROWTHS:
            greatest = max(growths, default=0)
            limits = {0, 1, greatest, greatest + 1, greatest + 3, 2 * greatest, sum(growths) - 1, sum(growths), 999}
            for limit in sorted(limits - {-1}):
                found = search(growths, limit)
                calls = with_days(*growths) + [("set_max_thickness", limit)]
                counts = range(len(growths) + 1)
                answered = after(calls, *[("optimal_breaks", count) for count in counts])
                used = after(calls, *[("use_optimal_breaks", count) for count in counts])
                for count in counts:
                    with self.subTest(growths=growths, limit=limit, count=count):
                        effort, breaks = found.get(count, (-33, ()))
                        self.assertEqual(answered[count], [effort, *breaks])
                        self.assertEqual(used[count], [effort])

    def test_fewest_breaks(self):
        for growths in GROWTHS:
            for limit in range(0, 70, 3):
                with self.subTest(growths=growths, limit=limit):
                    answered = after([*with_days(*growths), ("set_max_thickness", limit)], ("min_break_count",))
                    self.assertEqual(answered, [[min(search(growths, limit), default=-33)]])

    def test_excess_effort_of_every_list(self):
        seen = {True: 0, False: 0}
        for growths in ((), (0, 3), (1, 5, 2, 3), (0, 4, 0, 4, 0), (2, 1, 2, 1, 2, 1)):
            for limit in (4, 5, 6, 999):
                found = search(growths, limit)
                for breaks in lists_of_breaks(len(growths)):
                    calls = with_breaks(growths, breaks) + [("set_max_thickness", limit)]
                    valid, cost, excess = after(calls, ("is_valid_schedule",), ("schedule_cost",), ("excess_effort",))
                    seen[valid == [1]] += 1
                    with self.subTest(growths=growths, limit=limit, breaks=breaks):
                        if valid == [1]:
                            self.assertEqual(excess, [cost[0] - found[len(breaks)][0]])
                            self.assertGreaterEqual(excess, [0])
                        else:
                            self.assertEqual(excess, [-33])
        self.assertGreater(min(seen.values()), 50)


class DiminishingSavingsTest(unittest.TestCase):
    def test_each_further_break_saves_at_most_as_much(self):
        for growths in GROWTHS:
            efforts = search(growths)
            for limit in (0, 8, 999):
                calls = with_days(*growths) + [("set_max_thickness", limit)]
                ks = range(2, len(growths) + 1)
                savings = [answer[0] for answer in after(calls, *[("saving_of_break", k) for k in ks])]
                with self.subTest(growths=growths, limit=limit):
                    self.assertEqual(savings, sorted(savings, reverse=True))
                    self.assertEqual(savings, [efforts[k - 1][0] - efforts[k][0] for k in ks])


class UniformGrowthTest(unittest.TestCase):
    def test_optimal_effort_is_balanced_effort(self):
        for day_count in range(1, 11):
            for k in range(1, day_count + 1):
                with self.subTest(day_count=day_count, k=k):
                    optimal, balanced = after(
                        with_days(*[1] * day_count), ("optimal_breaks", k), ("balanced_effort", k))
                    self.assertEqual(optimal[0], balanced[0])
                    self.assertEqual(len(optimal), 1 + k)
                    self.assertEqual(balanced, [search((1,) * day_count)[k][0]])


class CompleteRemovalTest(unittest.TestCase):
    def test_breaks_of_a_valid_list_remove_all_the_ice(self):
        seen = {0: 0, 1: 0}
        looks = [("list_growth",), ("list_breaks",), ("thickness_per_break",), ("is_valid_schedule",),
                 ("schedule_cost",), ("total_growth",)]
        for growths in ((), (0,), (7,), (0, 0, 3), (5, 0, 1, 2), (3, 1, 4, 1, 5), (30, 0, 30, 0, 30, 1)):
            for breaks in lists_of_breaks(len(growths)):
                for max_thickness in (0, 5, 31, 999):
                    calls = with_breaks(growths, breaks[::-1]) + [("set_max_thickness", max_thickness)]
                    growth, listed, thicknesses, valid, cost, total = after(calls, *looks)
                    seen[valid[0]] += 1
                    with self.subTest(growths=growths, breaks=breaks, max_thickness=max_thickness):
                        self.assertEqual(growth, [len(growths), *growths])
                        self.assertEqual(listed, [len(breaks), *breaks])
                        self.assertEqual(thicknesses, [len(breaks), *thicknesses_of(growths, breaks)])
                        self.assertEqual(cost[0], sum(thickness ** 2 for thickness in thicknesses[1:]))
                        self.assertEqual(total, [sum(growths)])
                        ends_well = breaks[-1:] == tuple(range(len(growths)))[-1:]
                        within = all(thickness <= max_thickness for thickness in thicknesses[1:])
                        self.assertEqual(valid, [1 if ends_well and within else 0])
                        if valid == [1]:
                            self.assertEqual(sum(thicknesses[1:]), total[0])
        self.assertGreater(min(seen.values()), 50)

    def test_schedules_that_are_put_in_place_remove_all_the_ice(self):
        looks = [("is_valid_schedule",), ("thickness_per_break",), ("total_growth",)]
        for growths in GROWTHS:
            uses = [("use_cheapest_breaks",)] + [("use_optimal_breaks", k) for k in range(1, len(growths) + 1)]
            for use in uses:
                with self.subTest(growths=growths, use=use):
                    valid, thicknesses, total = after([*with_days(*growths), use], *looks)
                    self.assertEqual(valid, [1])
                    self.assertEqual([sum(thicknesses[1:])], total)

    def test_each_break_removes_what_grew_since_the_one_before(self):
        growths = (1, 2, 4, 8, 16, 29)
        for breaks in lists_of_breaks(len(growths)):
            with self.subTest(breaks=breaks):
                since = [-1, *breaks]
                betweens = [("thickness_between", since[at] + 1, day) for at, day in enumerate(breaks)]
                answered = after(with_breaks(growths, breaks), ("thickness_per_break",), *betweens)
                self.assertEqual(answered[0], [len(breaks)] + [answer[0] for answer in answered[1:]])


class CheapestNumberTest(unittest.TestCase):
    def test_no_number_of_breaks_is_cheaper(self):
        for growths in GROWTHS:
            greatest = max(growths, default=0)
            for limit in sorted({0, greatest, greatest + 4, sum(growths), 999}):
                for trip_cost in (0, 1, 2, 9, 18, 100, 800, 9999):
                    calls = with_days(*growths) + [("set_max_thickness", limit), ("set_trip_cost", trip_cost)]
                    counts = range(len(growths) + 1)
                    optimal = after(calls, *[("optimal_breaks", count) for count in counts])
                    cheapest, used = after(calls, ("cheapest_break_count",), ("use_cheapest_breaks",))
                    with self.subTest(growths=growths, limit=limit, trip_cost=trip_cost):
                        costs = [optimal[count][0] + trip_cost * count for count in counts if optimal[count] != [-33]]
                        self.assertEqual(cheapest, [*cheapest_by_search(growths, limit, trip_cost)] or [-33])
                        self.assertEqual(cheapest[-1], min(costs, default=-33))
                        self.assertEqual(used, cheapest[-1:])

    def test_schedule_put_in_place_is_the_optimal_one(self):
        for growths in GROWTHS:
            for trip_cost in (0, 9, 100, 9999):
                calls = with_days(*growths) + [("set_trip_cost", trip_cost)]
                cheapest, cost, listed, valid, whole = after(
                    calls, ("cheapest_break_count",), ("use_cheapest_breaks",), ("list_breaks",),
                    ("is_valid_schedule",), ("schedule_cost",))
                with self.subTest(growths=growths, trip_cost=trip_cost):
                    self.assertEqual(listed, [cheapest[0], *search(growths)[cheapest[0]][1]])
                    self.assertEqual(valid, [1])
                    self.assertEqual(whole[1:], cost)

    def test_what_would_be_is_what_comes(self):
        for growths in GROWTHS:
            for trip_cost, limit in ((0, 999), (9, 40), (100, 9), (9999, 30)):
                calls = with_days(*growths) + [("set_trip_cost", trip_cost), ("set_max_thickness", limit)]
                changes = [("growth", day, growth) for day in range(len(growths)) for growth in (0, 4, 30)]
                changes += [("max_thickness", thickness) for thickness in (0, 9, 31, 999)]
                for name, *given in changes:
                    with self.subTest(calls=calls, name=name, given=given):
                        first = after(calls, (f"cheapest_with_{name}", *given), (f"set_{name}", *given),
                                      ("cheapest_break_count",))
                        self.assertEqual(first[0], first[2])


class ExampleTest(unittest.TestCase):
    def test_example_of_the_document(self):
        expected = (
            (CREATE, [0]),
            (("add_day", 1), [0]),
            (("add_day", 2), [1]),
            (("add_day", 3), [2]),
            (("optimal_breaks", 1), [36, 2]),
            (("optimal_breaks", 2), [18, 1, 2]),
            (("set_trip_cost", 10), [0]),
            (("cheapest_break_count",), [2, 38]),
            (("add_break", 1), [3]),
            (("is_valid_schedule",), [0]),
            (("excess_effort",), [-33]))
        self.assertEqual(run(*[call for call, _ in expected]), [answer for _, answer in expected])


if __name__ == "__main__":
    unittest.main()
