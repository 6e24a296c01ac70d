"""Promise 2, check: plans that can be, plans that are none, and what is wrong in an hour."""

import unittest

from lines import LARGEST, ask, begins, check, crew, last, snow, snows

DEEP_NIGHT = begins(0, 1, 1000)


class CanBe(unittest.TestCase):
    def test_cost_hours_call_outs_depths(self):
        told = [begins(5, 4, 20), crew(2, 3, 10, 25), *snows(3, 6, 0, 1, 9, 2, 2)]
        self.assertEqual(last(*told, check(1, 1, 0, 0, 0, 1, 1)), [4 * 10 + 2 * 25, 4, 2, 4, 6, 6, 7, 16, 14, 12])
        self.assertEqual(last(*told, check(0, 1, 1, 0, 0, 0, 1)), [3 * 10 + 2 * 25, 3, 2, 8, 10, 6, 7, 16, 18, 16])
        self.assertEqual(last(*told, check(0, 0, 0, 1, 1, 0, 0)), [2 * 10 + 1 * 25, 2, 1, 8, 14, 14, 11, 16, 18, 20])

    def test_no_work_at_all(self):
        self.assertEqual(last(begins(2, 1, 9), crew(1, 1, 10, 25), *snows(3, 4), check(0, 0)), [0, 0, 0, 5, 9])

    def test_no_hours_and_an_empty_plan(self):
        self.assertEqual(last(begins(2, 1, 9), crew(1, 1, 10, 25), check()), [0, 0, 0])

    def test_without_hours_nothing_is_wrong_however_deep_it_lies(self):
        self.assertEqual(last(begins(1000, 1, 0), check()), [0, 0, 0])

    def test_all_ten_hours(self):
        told = [begins(10, 2, 100), crew(3, 2, 1000, 1000), *snows(*range(1, 11))]
        self.assertEqual(last(*told, check(1, 1, 1, 0, 0, 1, 1, 1, 0, 0)),
                         [8000, 6, 2, 9, 9, 10, 14, 19, 23, 28, 34, 43, 53])

    def test_too_deep_at_the_beginning_but_not_behind_the_hour(self):
        told = [begins(9, 4, 5), snow(0)]
        self.assertEqual(last(*told, check(1)), [0, 1, 1, 5])
        self.assertEqual(last(*told, check(0)), [-6, 0, 3])

    def test_just_as_deep_as_it_may(self):
        told = [begins(3, 4, 10), *snows(3, 4)]
        self.assertEqual(last(*told, check(0, 0)), [0, 0, 0, 6, 10])
        self.assertEqual(last(begins(3, 4, 9), *snows(3, 4), check(0, 0)), [-6, 1, 3])


class Clearing(unittest.TestCase):
    def test_more_than_lies_there(self):
        self.assertEqual(last(begins(2, 10, 5), *snows(3, 1, 0), check(1, 0, 1)), [0, 2, 2, 0, 1, 0])

    def test_just_what_lies_there_and_one_less(self):
        self.assertEqual(last(begins(2, 5, 9), snow(3), check(1)), [0, 1, 1, 0])
        self.assertEqual(last(begins(2, 4, 9), snow(3), check(1)), [0, 1, 1, 1])
        self.assertEqual(last(begins(2, 6, 9), snow(3), check(1)), [0, 1, 1, 0])

    def test_what_falls_in_the_hour_is_cleared_too(self):
        self.assertEqual(last(begins(0, 3, 0), snow(3), check(1)), [0, 1, 1, 0])

    def test_where_nothing_lies(self):
        told = [begins(0, 7, 0), crew(2, 1, 3, 5), *snows(0, 0)]
        self.assertEqual(last(*told, check(1, 1)), [11, 2, 1, 0, 0])


class NoPlan(unittest.TestCase):
    def test_too_few_and_too_many_numbers(self):
        told = [DEEP_NIGHT, *snows(1, 2, 3)]
        self.assertEqual(ask(*told, check(0, 1), check(0, 1, 0), check(0, 1, 0, 0), check())[4:],
                         [[-1], [0, 1, 1, 1, 2, 5], [-1], [-1]])

    def test_numbers_where_no_hours_are(self):
        self.assertEqual(ask(check(0), check(1), check(*[0] * 12)), [[-1], [-1], [-1]])

    def test_nine_to_twelve_numbers_for_ten_hours(self):
        told = [DEEP_NIGHT, *snows(*[0] * 10)]
        self.assertEqual(ask(*told, check(*[0] * 9), check(*[0] * 10), check(*[0] * 11), check(*[0] * 12))[11:],
                         [[-1], [0, 0, 0] + [0] * 10, [-1], [-1]])

    def test_a_number_above_one(self):
        told = [DEEP_NIGHT, crew(10, 1, 1, 1), *snows(1, 2, 3)]
        for plan in ((2, 0, 0), (0, 2, 0), (0, 0, 2), (1, 1, 3), (LARGEST, 1, 1), (1, 1, LARGEST), (2, 2, 2)):
            with self.subTest(plan=plan):
                self.assertEqual(last(*told, check(*plan)), [-1])

    def test_told_ahead_of_something_wrong(self):
        told = [begins(5, 1, 0), *snows(1, 2, 3)]
        self.assertEqual(last(*told, check(0, 0, 0)), [-6, 0, 3])
        for plan in ((0, 0), (0, 0, 0, 0), (0, 0, 2), (1, 1, 2), (1, 1), ()):
            with self.subTest(plan=plan):
                self.assertEqual(last(*told, check(*plan)), [-1])


class TooLong(unittest.TestCase):
    def test_just_as_long_as_may_be_and_an_hour_more(self):
        told = [DEEP_NIGHT, crew(3, 1, 10, 100), *snows(1, 1, 1, 1)]
        self.assertEqual(last(*told, check(1, 1, 1, 0)), [130, 3, 1, 0, 0, 0, 1])
        self.assertEqual(last(*told, check(0, 1, 1, 1)), [130, 3, 1, 1, 1, 1, 1])
        self.assertEqual(last(*told, check(1, 1, 1, 1)), [-6, 3, 1])

    def test_one_in_a_row(self):
        self.assertEqual(last(DEEP_NIGHT, *snows(0, 0), check(1, 1)), [-6, 1, 1])

    def test_later_in_the_night(self):
        told = [DEEP_NIGHT, crew(2, 1, 10, 100), *snows(1, 1, 1, 1, 1, 1)]
        self.assertEqual(last(*told, check(1, 1, 0, 1, 1, 0)), [240, 4, 2, 0, 0, 1, 1, 1, 2])
        self.assertEqual(last(*told, check(1, 1, 0, 1, 1, 1)), [-6, 5, 1])
        self.assertEqual(last(*told, check(0, 0, 1, 1, 1, 0)), [-6, 4, 1])

    def test_only_hours_right_before_count(self):
        told = [DEEP_NIGHT, crew(2, 1, 0, 0), *snows(*[0] * 8)]
        self.assertEqual(last(*told, check(1, 0, 1, 1, 0, 1, 0, 1)), [0, 5, 4] + [0] * 8)


class TooSoon(unittest.TestCase):
    def test_rest_just_enough_and_an_hour_too_short(self):
        told = [DEEP_NIGHT, crew(2, 3, 10, 100), *snows(0, 0, 0, 0, 0, 0)]
        self.assertEqual(last(*told, check(1, 0, 0, 0, 1, 1)), [230, 3, 2] + [0] * 6)
        self.assertEqual(last(*told, check(1, 0, 0, 1, 0, 0)), [-6, 3, 2])
        self.assertEqual(last(*told, check(1, 0, 1, 0, 0, 0)), [-6, 2, 2])
        self.assertEqual(last(*told, check(1, 0, 0, 0, 0, 1)), [220, 2, 2] + [0] * 6)

    def test_rest_counts_from_the_last_hour_of_work(self):
        told = [DEEP_NIGHT, crew(3, 2, 10, 100), *snows(0, 0, 0, 0, 0, 0)]
        self.assertEqual(last(*told, check(1, 1, 0, 1, 0, 0)), [-6, 3, 2])
        self.assertEqual(last(*told, check(1, 1, 1, 0, 1, 0)), [-6, 4, 2])
        self.assertEqual(last(*told, check(1, 1, 1, 0, 0, 1)), [240, 4, 2] + [0] * 6)

    def test_every_rest_counts_by_itself(self):
        told = [DEEP_NIGHT, crew(1, 2, 10, 100), *snows(0, 0, 0, 0, 0, 0, 0)]
        self.assertEqual(last(*told, check(1, 0, 0, 1, 0, 1, 0)), [-6, 5, 2])
        self.assertEqual(last(*told, check(1, 0, 0, 1, 0, 0, 1)), [330, 3, 3] + [0] * 7)

    def test_the_first_call_out_needs_no_rest(self):
        told = [DEEP_NIGHT, crew(1, 10, 10, 100), *snows(0, 0, 0)]
        self.assertEqual(last(*told, check(1, 0, 0)), [110, 1, 1, 0, 0, 0])
        self.assertEqual(last(*told, check(0, 1, 0)), [110, 1, 1, 0, 0, 0])
        self.assertEqual(last(*told, check(0, 0, 1)), [110, 1, 1, 0, 0, 0])

    def test_working_on_needs_no_rest(self):
        told = [DEEP_NIGHT, crew(3, 10, 10, 100), *snows(0, 0, 0)]
        self.assertEqual(last(*told, check(1, 1, 1)), [130, 3, 1, 0, 0, 0])


class TooDeep(unittest.TestCase):
    def test_in_the_first_hour(self):
        told = [begins(4, 2, 5), snow(2)]
        self.assertEqual(last(*told, check(0)), [-6, 0, 3])
        self.assertEqual(last(*told, check(1)), [0, 1, 1, 4])

    def test_in_a_later_hour(self):
        told = [begins(4, 2, 5), *snows(1, 0, 1, 0)]
        self.assertEqual(last(*told, check(0, 0, 0, 0)), [-6, 2, 3])
        self.assertEqual(last(*told, check(0, 0, 1, 0)), [0, 1, 1, 5, 5, 4, 4])
        self.assertEqual(last(*told, check(0, 1, 0, 0)), [0, 1, 1, 5, 3, 4, 4])

    def test_in_an_hour_of_work(self):
        self.assertEqual(last(begins(4, 2, 5), snow(4), check(1)), [-6, 0, 3])
        self.assertEqual(last(begins(4, 2, 5), *snows(0, 2, 4), check(0, 1, 0)), [-6, 2, 3])

    def test_too_deep_counts_though_it_is_cleared_later(self):
        self.assertEqual(last(begins(0, 100, 5), *snows(6, 0), check(0, 1)), [-6, 0, 3])


class SeveralWrong(unittest.TestCase):
    def test_too_long_and_too_deep_in_one_hour(self):
        self.assertEqual(last(begins(0, 1, 0), *snows(1, 5), check(1, 1)), [-6, 1, 1])
        self.assertEqual(last(begins(0, 1, 0), crew(2, 1, 0, 0), *snows(1, 5), check(1, 1)), [-6, 1, 3])

    def test_too_soon_and_too_deep_in_one_hour(self):
        told = [begins(0, 1, 0), *snows(1, 0, 5)]
        self.assertEqual(last(*told, crew(1, 2, 0, 0), check(1, 0, 1)), [-6, 2, 2])
        self.assertEqual(last(*told, crew(1, 1, 0, 0), check(1, 0, 1)), [-6, 2, 3])

    def test_of_several_hours_the_first_is_told(self):
        told = [begins(0, 1, 3), crew(1, 2, 0, 0)]
        self.assertEqual(last(*told, *snows(4, 0, 0), check(0, 1, 1)), [-6, 0, 3])
        self.assertEqual(last(*told, *snows(0, 0, 9), check(1, 1, 0)), [-6, 1, 1])
        self.assertEqual(last(*told, *snows(0, 0, 0, 9), check(1, 0, 1, 1)), [-6, 2, 2])
        self.assertEqual(last(*told, *snows(0, 4, 0), check(1, 0, 1)), [-6, 1, 3])


class AtTheBeginning(unittest.TestCase):
    """A check ahead of any begins or crew."""

    def test_no_hours(self):
        self.assertEqual(ask(check()), [[0, 0, 0]])

    def test_nothing_lies_and_none_may(self):
        self.assertEqual(ask(snow(0), check(0)), [[0], [0, 0, 0, 0]])
        self.assertEqual(ask(snow(1), check(0)), [[0], [-6, 0, 3]])

    def test_the_crew_clears_one(self):
        self.assertEqual(ask(snow(1), check(1)), [[0], [0, 1, 1, 0]])
        self.assertEqual(ask(snow(2), check(1)), [[0], [-6, 0, 3]])

    def test_it_works_one_hour_and_rests_one(self):
        told = snows(1, 0, 1)
        self.assertEqual(last(*told, check(1, 0, 1)), [0, 2, 2, 0, 0, 0])
        self.assertEqual(last(*told, check(1, 1, 0)), [-6, 1, 1])

    def test_nothing_costs_anything(self):
        self.assertEqual(last(*snows(*[1, 0] * 5), check(*[1, 0] * 5)), [0, 5, 5] + [0] * 10)


class NothingChanges(unittest.TestCase):
    def test_a_check_leaves_all_as_it_was(self):
        told = [begins(7, 3, 12), crew(2, 3, 10, 100), *snows(2, 4, 1)]
        good, long, deep, none = check(1, 1, 0), check(1, 1, 1), check(0, 0, 0), check(1, 2, 0)
        answered = ask(*told, good, good, long, good, deep, good, none, good, check(1), good, snow(0))[5:]
        cost = [120, 2, 1, 6, 7, 8]
        self.assertEqual(answered, [cost, cost, [-6, 2, 1], cost, [-6, 1, 3], cost, [-1], cost, [-1], cost, [3]])


if __name__ == "__main__":
    unittest.main()
