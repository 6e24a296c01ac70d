"""Promise 2, cheapest: what it costs, its hours of work, how many are as good, and the earliest of them."""

import unittest

from lines import CHEAPEST, LARGEST, ask, begins, crew, last, snow, snows

TEN_OF_HUNDRED = snows(*[100] * 10)


class FewHours(unittest.TestCase):
    def test_a_new_watch(self):
        self.assertEqual(ask(CHEAPEST), [[0, 0, 1]])

    def test_no_hours_told_the_empty_plan_can_be(self):
        self.assertEqual(last(begins(2, 1, 9), crew(2, 3, 10, 100), CHEAPEST), [0, 0, 1])

    def test_no_hours_told_however_deep_it_lies(self):
        self.assertEqual(last(begins(1000, 1, 0), crew(2, 3, 10, 100), CHEAPEST), [0, 0, 1])

    def test_one_hour_without_work(self):
        self.assertEqual(last(begins(2, 1, 9), crew(1, 1, 10, 100), snow(7), CHEAPEST), [0, 0, 1, 0])

    def test_one_hour_of_work(self):
        self.assertEqual(last(begins(2, 1, 9), crew(1, 1, 10, 100), snow(8), CHEAPEST), [110, 1, 1, 1])

    def test_what_is_told_at_the_beginning(self):
        self.assertEqual(ask(snow(0), CHEAPEST), [[0], [0, 0, 1, 0]])
        self.assertEqual(ask(snow(1), CHEAPEST), [[0], [0, 1, 1, 1]])
        self.assertEqual(ask(snow(2), CHEAPEST), [[0], [-6]])


class NoPlanCanBe(unittest.TestCase):
    def test_one_hour(self):
        self.assertEqual(last(begins(2, 1, 9), crew(1, 1, 10, 100), snow(9), CHEAPEST), [-6])

    def test_more_lies_at_the_beginning_than_is_cleared_in_the_first_hour(self):
        self.assertEqual(last(begins(9, 4, 5), snow(0), CHEAPEST), [0, 1, 1, 1])
        self.assertEqual(last(begins(10, 4, 5), snow(0), CHEAPEST), [-6])

    def test_one_hour_too_many(self):
        told = [begins(0, 5, 5), crew(1, 1, 10, 100), *snows(5, 5, 5)]
        self.assertEqual(last(*told, CHEAPEST), [220, 2, 1, 1, 0, 1])
        self.assertEqual(last(*told, snow(1), CHEAPEST), [-6])

    def test_the_crew_rests_just_when_it_is_needed(self):
        told = [begins(0, 10, 10), *snows(10, 10, 10)]
        self.assertEqual(last(*told, crew(1, 3, 10, 100), CHEAPEST), [-6])
        self.assertEqual(last(*told, crew(1, 2, 10, 100), CHEAPEST), [-6])
        self.assertEqual(last(*told, crew(1, 1, 10, 100), CHEAPEST), [220, 2, 1, 1, 0, 1])
        self.assertEqual(last(*told, crew(2, 3, 10, 100), CHEAPEST), [120, 2, 2, 0, 1, 1])

    def test_ten_hours(self):
        self.assertEqual(last(begins(1000, 1, 1000), crew(10, 1, 10, 100), *TEN_OF_HUNDRED, CHEAPEST), [-6])

    def test_what_was_refused_is_not_looked_at(self):
        told = [begins(2, 1, 9), snow(9), begins(2, 0, 1000), crew(0, 1, 0, 0), snow(LARGEST)]
        self.assertEqual(last(*told, CHEAPEST), [-6])


class WhatCosts(unittest.TestCase):
    """The crew must work in the first and the third hour, and may in the second: two plans can be."""

    def told(self, hour, call):
        return [begins(0, 100, 10), crew(3, 1, hour, call), *snows(11, 0, 11)]

    def test_hours_and_call_outs(self):
        self.assertEqual(last(*self.told(10, 100), CHEAPEST), [130, 3, 1, 1, 1, 1])
        self.assertEqual(last(*self.told(10, 11), CHEAPEST), [41, 3, 1, 1, 1, 1])
        self.assertEqual(last(*self.told(10, 9), CHEAPEST), [38, 2, 1, 1, 0, 1])

    def test_of_as_cheap_ones_it_has_the_fewest_hours(self):
        self.assertEqual(last(*self.told(10, 10), CHEAPEST), [40, 2, 1, 1, 0, 1])
        self.assertEqual(last(*self.told(1000, 1000), CHEAPEST), [4000, 2, 1, 1, 0, 1])

    def test_hours_cost_and_call_outs_do_not(self):
        self.assertEqual(last(*self.told(10, 0), CHEAPEST), [20, 2, 1, 1, 0, 1])

    def test_call_outs_cost_and_hours_do_not(self):
        self.assertEqual(last(*self.told(0, 100), CHEAPEST), [100, 3, 1, 1, 1, 1])

    def test_nothing_costs_anything(self):
        self.assertEqual(last(*self.told(0, 0), CHEAPEST), [0, 2, 1, 1, 0, 1])

    def test_the_crew_told_last_counts(self):
        self.assertEqual(last(*self.told(10, 100), crew(2, 1, 10, 100), CHEAPEST), [220, 2, 1, 1, 0, 1])


class AsGood(unittest.TestCase):
    def test_all_that_can_be(self):
        told = [begins(0, 5, 9), crew(1, 1, 10, 100)]
        self.assertEqual(last(*told, *snows(4, 4, 4), CHEAPEST), [110, 1, 3, 0, 0, 1])

    def test_those_that_can_not_be_do_not_count(self):
        told = [begins(0, 5, 9), crew(1, 1, 10, 100)]
        self.assertEqual(last(*told, *snows(4, 6, 4), CHEAPEST), [110, 1, 1, 0, 1, 0])
        self.assertEqual(last(*told, *snows(4, 5, 4), CHEAPEST), [110, 1, 3, 0, 0, 1])

    def test_as_cheap_with_more_hours_is_not_as_good(self):
        self.assertEqual(last(begins(0, 1, 1000), crew(2, 1, 0, 0), *snows(1, 1), CHEAPEST), [0, 0, 1, 0, 0])

    def test_as_good_with_other_call_outs(self):
        told = [begins(0, 5, 9), *snows(4, 6, 4, 5)]
        self.assertEqual(last(*told, crew(2, 1, 10, 0), CHEAPEST), [20, 2, 2, 0, 1, 0, 1])
        self.assertEqual(last(*told, crew(2, 1, 10, 1), CHEAPEST), [21, 2, 1, 0, 1, 1, 0])
        self.assertEqual(last(*told, crew(1, 1, 10, 1), CHEAPEST), [22, 2, 1, 0, 1, 0, 1])


class TenHours(unittest.TestCase):
    """It lies so much too deep behind the last hour as it's told here: as many hours of work are needed."""

    def cheapest(self, too_deep, row, rest):
        return last(begins(too_deep, 1, 1000), crew(row, rest, 10, 100), *TEN_OF_HUNDRED, CHEAPEST)

    def test_no_work(self):
        self.assertEqual(self.cheapest(0, 2, 3), [0, 0, 1] + [0] * 10)

    def test_one_hour_of_work_in_any_of_ten(self):
        for row, rest in ((1, 1), (1, 10), (10, 1), (10, 10), (2, 3)):
            with self.subTest(row=row, rest=rest):
                self.assertEqual(self.cheapest(1, row, rest), [110, 1, 10] + [0] * 9 + [1])

    def test_two_hours_of_work(self):
        self.assertEqual(self.cheapest(2, 2, 3), [120, 2, 9] + [0] * 8 + [1, 1])
        self.assertEqual(self.cheapest(2, 1, 7), [220, 2, 3] + [0] + [1] + [0] * 7 + [1])
        self.assertEqual(self.cheapest(2, 1, 8), [220, 2, 1, 1] + [0] * 8 + [1])
        self.assertEqual(self.cheapest(2, 1, 9), [-6])
        self.assertEqual(self.cheapest(2, 1, 10), [-6])

    def test_three_hours_of_work(self):
        self.assertEqual(self.cheapest(3, 10, 1), [130, 3, 8] + [0] * 7 + [1, 1, 1])
        self.assertEqual(self.cheapest(3, 10, 10), [130, 3, 8] + [0] * 7 + [1, 1, 1])
        self.assertEqual(self.cheapest(3, 2, 1), [230, 3, 56, 0, 0, 0, 0, 0, 0, 1, 0, 1, 1])
        self.assertEqual(self.cheapest(3, 1, 1), [330, 3, 56, 0, 0, 0, 0, 0, 1, 0, 1, 0, 1])

    def test_one_hour_in_a_row_and_one_of_rest(self):
        self.assertEqual(self.cheapest(5, 1, 1), [550, 5, 6] + [0, 1] * 5)
        self.assertEqual(self.cheapest(6, 1, 1), [-6])

    def test_ten_hours_in_a_row(self):
        self.assertEqual(self.cheapest(10, 10, 10), [200, 10, 1] + [1] * 10)
        self.assertEqual(self.cheapest(10, 10, 1), [200, 10, 1] + [1] * 10)
        self.assertEqual(self.cheapest(10, 9, 1), [-6])

    def test_the_most_that_can_be_paid(self):
        told = [begins(10, 1, 1000), *TEN_OF_HUNDRED]
        self.assertEqual(last(*told, crew(10, 10, 1000, 1000), CHEAPEST), [11000, 10, 1] + [1] * 10)


if __name__ == "__main__":
    unittest.main()
