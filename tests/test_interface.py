import unittest

from icebreaks.fairway import answers
from tests.helper import CREATE, last, run, with_days

# Call by call, with as many numbers as the interface gives it, from 1 to 26.
EVERY_OTHER_CALL = (
    [1, 5], [2], [3, 0, 5], [4, 7], [5, 8], [6], [7, 0, 0], [8, 0], [9, 0],
    [10], [11], [12], [13], [14], [15, 0], [16, 0], [17], [18, 2], [19], [20],
    [21], [22, 0, 5], [23, 8], [24, 1], [25, 0], [26],
)


def calls_one_behind_another():
    return sum(EVERY_OTHER_CALL, [])


class Untouchable(list):
    def refuse(self, *given, **named):
        raise AssertionError("the list that was handed in was touched")

    append = extend = insert = pop = remove = clear = sort = reverse = refuse
    __setitem__ = __delitem__ = __iadd__ = __imul__ = refuse


class AnswersTest(unittest.TestCase):
    def test_each_answer_has_its_count_ahead(self):
        calls = [0, 1, 4, 1, 6, 8, 0, 6, 7, 0, 1, 10, 11, 12, 13, 9, 1]
        self.assertEqual(answers(calls), [
            1, 0,
            1, 0,
            1, 1,
            1, 4,
            3, 2, 4, 6,
            2, 10, 100,
            2, 1, 0,
            2, 1, 4,
            1, 0,
            2, 16, 16,
            1, -2,
        ])

    def test_each_answer_of_the_calls_14_to_26_has_its_count_ahead(self):
        calls = [0, 1, 1, 1, 2, 1, 3, 4, 10] + [
            14, 15, 2, 16, 2, 17, 18, 2, 19, 20, 21, 22, 2, 0, 23, 5, 24, 2, 25, 2, 26, 15, 0, 15, 4]
        self.assertEqual(answers(calls)[10:], [
            1, 6,
            3, 18, 1, 2,
            1, 18,
            1, 0,
            1, 18,
            1, 1,
            2, 2, 38,
            1, 38,
            2, 1, 19,
            2, 2, 38,
            1, 5,
            1, 3,
            4, 3, 10, 999, 2,
            1, -33,
            1, -22,
        ])

    def test_effort_alone_stands_for_no_days(self):
        self.assertEqual(answers([0, 15, 0, 16, 0, 20]), [1, 0, 1, 0, 1, 0, 2, 0, 0])

    def test_counts_of_nothing_are_answered(self):
        self.assertEqual(answers([0, 6, 10, 11]), [1, 0, 1, 0, 1, 0, 1, 0])

    def test_every_number_is_a_plain_whole_number(self):
        answered = answers([0, 1, 4, 8, 0, 12, 8, 0, 13, 9, 0, 12, 2, 12] + calls_one_behind_another())
        self.assertEqual({type(number) for number in answered}, {int})
        self.assertIs(type(answered), list)

    def test_longest_list(self):
        calls = with_days(*[1] * 10) + [("set_growth", 9, growth % 31) for growth in range(39)]
        self.assertEqual(len(calls), 50)
        answered = run(*calls)
        self.assertEqual(len(answered), 50)
        self.assertEqual(answered[-1], [37 % 31])

    def test_longest_list_of_the_longest_answers(self):
        calls = with_days(*[30] * 10) + [("optimal_breaks", 10)] * 39
        self.assertEqual(run(*calls)[11:], [[9000, *range(10)]] * 39)
        calls = with_days(*[30] * 10) + [("cheapest_with_growth", 9, 0)] * 39
        self.assertEqual(run(*calls)[11:], [[9, 8100]] * 39)

    def test_list_handed_in_stays_as_it_was(self):
        calls = [10, 0, 1, 4, 1, 31, 8, 0, 3, 0, 9, 13, 2, 6] + [0, 1, 4, 1, 6] + calls_one_behind_another()
        handed_in = Untouchable(calls)
        first = answers(handed_in)
        self.assertEqual(list(handed_in), calls)
        self.assertEqual(answers(handed_in), first)
        self.assertEqual(list(handed_in), calls)

    def test_nothing_is_kept_from_one_list_to_the_next(self):
        calls = [0, 1, 4, 1, 6, 8, 0, 4, 5, 5, 7, 6, 10, 13, 16, 2, 20, 21, 10, 26]
        first = answers(calls)
        copy = list(first)
        first.clear()
        self.assertEqual(answers([6, 10, 13, 26]), [1, -11, 1, -11, 1, -11, 1, -11])
        self.assertEqual(answers([0, 6, 10, 4, 0, 5, 0]), [1, 0, 1, 0, 1, 0, 1, 0, 1, 999])
        self.assertEqual(answers(calls), copy)


class CreateTest(unittest.TestCase):
    def test_every_call_ahead_of_a_create(self):
        for call in EVERY_OTHER_CALL:
            with self.subTest(call=call):
                self.assertEqual(answers(call), [1, -11])
                self.assertEqual(answers(call + [0]), [1, -11, 1, 0])

    def test_no_instance_comes_ahead_of_every_other_error(self):
        most = 4294967295
        for call in ([1, most], [3, most, most], [4, most], [5, most], [7, most, 0], [8, most], [9, most],
                     [15, most], [16, most], [18, most], [22, most, most], [23, most], [24, most], [25, most]):
            with self.subTest(call=call):
                self.assertEqual(answers(call), [1, -11])

    def test_all_calls_one_behind_another_ahead_of_a_create(self):
        self.assertEqual(answers(calls_one_behind_another() + [0, 6]), [1, -11] * 26 + [1, 0, 1, 0])

    def test_nothing_is_done_ahead_of_a_create(self):
        self.assertEqual(
            run(("add_day", 4), ("add_break", 0), ("set_trip_cost", 5), ("set_max_thickness", 6), CREATE,
                ("list_growth",), ("list_breaks",), ("set_trip_cost", 0), ("set_max_thickness", 0)),
            [[-11], [-11], [-11], [-11], [0], [0], [0], [0], [999]])
        self.assertEqual(
            run(("use_optimal_breaks", 0), ("use_cheapest_breaks",), CREATE, ("summary",)),
            [[-11], [-11], [0], [0, 0, 999, 0]])

    def test_create_comes_with_nothing(self):
        self.assertEqual(
            run(CREATE, ("list_growth",), ("list_breaks",), ("thickness_per_break",), ("is_valid_schedule",),
                ("schedule_cost",), ("set_trip_cost", 1), ("set_max_thickness", 1)),
            [[0], [0], [0], [0], [1], [0, 0], [0], [999]])

    def test_second_create_empties_everything(self):
        calls = with_days(3, 4) + [
            ("add_break", 0), ("add_break", 1), ("set_trip_cost", 12), ("set_max_thickness", 5), CREATE,
            ("list_growth",), ("list_breaks",), ("thickness_per_break",), ("is_valid_schedule",),
            ("schedule_cost",), ("set_trip_cost", 0), ("set_max_thickness", 0), ("add_day", 6)]
        self.assertEqual(run(*calls)[7:], [[0], [0], [0], [0], [1], [0, 0], [0], [999], [0]])

    def test_create_behind_a_refusal(self):
        self.assertEqual(last(CREATE, ("remove_last_day",), CREATE), [0])


if __name__ == "__main__":
    unittest.main()
