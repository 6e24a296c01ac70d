"""Promise 2, fewest: the fewest hours of work, the call-outs, how many are as good, and the earliest of them."""

import unittest

from lines import CHEAPEST, FEWEST, LARGEST, ask, begins, check, crew, last, snow, snows

TEN_OF_HUNDRED = snows(*[100] * 10)


class FewHours(unittest.TestCase):
    def test_a_new_watch(self):
        self.assertEqual(ask(FEWEST), [[0, 0, 1]])

    def test_no_hours_told_the_empty_plan_can_be(self):
        self.assertEqual(last(begins(2, 1, 9), crew(2, 3, 10, 100), FEWEST), [0, 0, 1])

    def test_no_hours_told_however_deep_it_lies(self):
        self.assertEqual(last(begins(1000, 1, 0), crew(2, 3, 10, 100), FEWEST), [0, 0, 1])

    def test_one_hour_without_work(self):
        self.assertEqual(last(begins(2, 1, 9), crew(1, 1, 10, 100), snow(7), FEWEST), [0, 0, 1, 0])

    def test_one_hour_of_work(self):
        self.assertEqual(last(begins(2, 1, 9), crew(1, 1, 10, 100), snow(8), FEWEST), [1, 1, 1, 1])

    def test_what_is_told_at_the_beginning(self):
        self.assertEqual(ask(snow(0), FEWEST), [[0], [0, 0, 1, 0]])
        self.assertEqual(ask(snow(1), FEWEST), [[0], [1, 1, 1, 1]])
        self.assertEqual(ask(snow(2), FEWEST), [[0], [-6]])


class NoPlanCanBe(unittest.TestCase):
    def test_one_hour(self):
        self.assertEqual(last(begins(2, 1, 9), crew(1, 1, 10, 100), snow(9), FEWEST), [-6])

    def test_more_lies_at_the_beginning_than_is_cleared_in_the_first_hour(self):
        self.assertEqual(last(begins(9, 4, 5), snow(0), FEWEST), [1, 1, 1, 1])
        self.assertEqual(last(begins(10, 4, 5), snow(0), FEWEST), [-6])

    def test_one_hour_too_many(self):
        told = [begins(0, 5, 5), crew(1, 1, 10, 100), *snows(5, 5, 5)]
        self.assertEqual(last(*told, FEWEST), [2, 2, 1, 1, 0, 1])
        self.assertEqual(last(*told, snow(1), FEWEST), [-6])

    def test_the_crew_rests_just_when_it_is_needed(self):
        told = [begins(0, 10, 10), *snows(10, 10, 10)]
        self.assertEqual(last(*told, crew(1, 3, 10, 100), FEWEST), [-6])
        self.assertEqual(last(*told, crew(1, 2, 10, 100), FEWEST), [-6])
        self.assertEqual(last(*told, crew(1, 1, 10, 100), FEWEST), [2, 2, 1, 1, 0, 1])
        self.assertEqual(last(*told, crew(2, 3, 10, 100), FEWEST), [2, 1, 2, 0, 1, 1])

    def test_ten_hours(self):
        self.assertEqual(last(begins(1000, 1, 1000), crew(10, 1, 10, 100), *TEN_OF_HUNDRED, FEWEST), [-6])

    def test_what_was_refused_is_not_looked_at(self):
        told = [begins(2, 1, 9), snow(9), begins(2, 0, 1000), crew(0, 1, 0, 0), snow(LARGEST)]
        self.assertEqual(last(*told, FEWEST), [-6])


class WhatCosts(unittest.TestCase):
    def test_fewest_does_not_hang_on_what_anything_costs(self):
        told = [begins(0, 100, 10), *snows(11, 0, 11)]
        for hour, call in ((0, 0), (10, 0), (0, 100), (10, 9), (10, 10), (10, 11), (10, 100), (1000, 1000)):
            with self.subTest(hour=hour, call=call):
                self.assertEqual(last(*told, crew(3, 1, hour, call), FEWEST), [2, 2, 1, 1, 0, 1])


class AsGood(unittest.TestCase):
    def test_all_that_can_be(self):
        self.assertEqual(last(begins(0, 5, 9), *snows(4, 4, 4), FEWEST), [1, 1, 3, 0, 0, 1])

    def test_those_that_can_not_be_do_not_count(self):
        self.assertEqual(last(begins(0, 5, 9), *snows(4, 6, 4), FEWEST), [1, 1, 1, 0, 1, 0])
        self.assertEqual(last(begins(0, 5, 9), *snows(4, 5, 4), FEWEST), [1, 1, 3, 0, 0, 1])

    def test_of_as_few_it_has_the_fewest_call_outs(self):
        told = [begins(0, 5, 9), *snows(4, 6, 4, 5)]
        self.assertEqual(last(*told, crew(2, 1, 10, 0), FEWEST), [2, 1, 1, 0, 1, 1, 0])
        self.assertEqual(last(*told, crew(1, 1, 10, 0), FEWEST), [2, 2, 1, 0, 1, 0, 1])


class BesideTheCheapest(unittest.TestCase):
    def test_the_cheapest_has_more_hours_and_the_fewest_costs_more(self):
        told = [begins(0, 100, 10), crew(3, 1, 10, 100), *snows(11, 0, 11)]
        cheapest, fewest, checked = ask(*told, CHEAPEST, FEWEST, check(1, 0, 1))[-3:]
        self.assertEqual(cheapest, [130, 3, 1, 1, 1, 1])
        self.assertEqual(fewest, [2, 2, 1, 1, 0, 1])
        self.assertEqual(checked, [220, 2, 2, 0, 0, 0])

    def test_the_cheapest_has_as_few_hours_but_more_call_outs(self):
        told = [begins(0, 5, 9), crew(2, 1, 10, 0), *snows(4, 6, 4, 5)]
        cheapest, fewest, checked = ask(*told, CHEAPEST, FEWEST, check(0, 1, 0, 1))[-3:]
        self.assertEqual(cheapest, [20, 2, 2, 0, 1, 0, 1])
        self.assertEqual(fewest, [2, 1, 1, 0, 1, 1, 0])
        self.assertEqual(checked, [20, 2, 2, 4, 5, 9, 9])

    def test_both_are_the_same_plan(self):
        told = [begins(0, 5, 9), crew(1, 1, 10, 100), *snows(4, 6, 4)]
        self.assertEqual(ask(*told, CHEAPEST, FEWEST)[-2:], [[110, 1, 1, 0, 1, 0], [1, 1, 1, 0, 1, 0]])


class TenHours(unittest.TestCase):
    """It lies so much too deep behind the last hour as it's told here: as many hours of work are needed."""

    def fewest(self, too_deep, row, rest):
        return last(begins(too_deep, 1, 1000), crew(row, rest, 10, 100), *TEN_OF_HUNDRED, FEWEST)

    def test_no_work(self):
        self.assertEqual(self.fewest(0, 2, 3), [0, 0, 1] + [0] * 10)

    def test_one_hour_of_work_in_any_of_ten(self):
        for row, rest in ((1, 1), (1, 10), (10, 1), (10, 10), (2, 3)):
            with self.subTest(row=row, rest=rest):
                self.assertEqual(self.fewest(1, row, rest), [1, 1, 10] + [0] * 9 + [1])

    def test_two_hours_of_work(self):
        self.assertEqual(self.fewest(2, 2, 3), [2, 1, 9] + [0] * 8 + [1, 1])
        self.assertEqual(self.fewest(2, 1, 7), [2, 2, 3] + [0] + [1] + [0] * 7 + [1])
        self.assertEqual(self.fewest(2, 1, 8), [2, 2, 1, 1] + [0] * 8 + [1])
        self.assertEqual(self.fewest(2, 1, 9), [-6])
        self.assertEqual(self.fewest(2, 1, 10), [-6])

    def test_three_hours_of_work(self):
        self.assertEqual(self.fewest(3, 10, 1), [3, 1, 8] + [0] * 7 + [1, 1, 1])
        self.assertEqual(self.fewest(3, 10, 10), [3, 1, 8] + [0] * 7 + [1, 1, 1])
        self.assertEqual(self.fewest(3, 2, 1), [3, 2, 56, 0, 0, 0, 0, 0, 0, 1, 0, 1, 1])
        self.assertEqual(self.fewest(3, 1, 1), [3, 3, 56, 0, 0, 0, 0, 0, 1, 0, 1, 0, 1])

    def test_one_hour_in_a_row_and_one_of_rest(self):
        self.assertEqual(self.fewest(5, 1, 1), [5, 5, 6] + [0, 1] * 5)
        self.assertEqual(self.fewest(6, 1, 1), [-6])

    def test_ten_hours_in_a_row(self):
        self.assertEqual(self.fewest(10, 10, 10), [10, 1, 1] + [1] * 10)
        self.assertEqual(self.fewest(10, 10, 1), [10, 1, 1] + [1] * 10)
        self.assertEqual(self.fewest(10, 9, 1), [-6])


if __name__ == "__main__":
    unittest.main()
