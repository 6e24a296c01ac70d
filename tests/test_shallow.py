"""shallow: the least depth that can be kept. It always has an answer."""

import unittest

from lines import CHEAPEST, FEWEST, SHALLOW, ask, begins, crew, last, snow, snows

TEN_OF_HUNDRED = snows(*[100] * 10)


class WithoutHours(unittest.TestCase):
    def test_a_new_watch(self):
        self.assertEqual(ask(SHALLOW), [[0]])

    def test_however_deep_it_lies(self):
        self.assertEqual(last(begins(1000, 1, 0), SHALLOW), [0])
        self.assertEqual(last(begins(7, 3, 1000), crew(2, 3, 10, 100), SHALLOW), [0])

    def test_hours_that_a_begins_took_away(self):
        self.assertEqual(last(*snows(9, 9), begins(5, 1, 0), SHALLOW), [0])


class NothingFalls(unittest.TestCase):
    def test_and_nothing_lies(self):
        self.assertEqual(last(snow(0), SHALLOW), [0])
        self.assertEqual(last(begins(0, 3, 9), *snows(*[0] * 10), SHALLOW), [0])

    def test_what_lies_at_the_beginning_is_cleared_in_the_first_hour(self):
        self.assertEqual(last(begins(10, 9, 0), snow(0), SHALLOW), [1])
        self.assertEqual(last(begins(10, 10, 0), snow(0), SHALLOW), [0])
        self.assertEqual(last(begins(10, 11, 0), snow(0), SHALLOW), [0])

    def test_later_hours_make_it_no_better(self):
        self.assertEqual(last(begins(10, 4, 0), crew(10, 1, 0, 0), *snows(*[0] * 10), SHALLOW), [6])


class SomeFalls(unittest.TestCase):
    def test_one_hour(self):
        self.assertEqual(last(begins(3, 4, 0), snow(6), SHALLOW), [5])
        self.assertEqual(last(begins(0, 4, 0), snow(4), SHALLOW), [0])
        self.assertEqual(last(begins(0, 4, 0), snow(5), SHALLOW), [1])

    def test_as_many_hours_in_a_row_as_the_crew_works(self):
        told = [begins(0, 10, 0), *snows(10, 10, 10)]
        self.assertEqual(last(*told, crew(3, 1, 0, 0), SHALLOW), [0])
        self.assertEqual(last(*told, crew(2, 1, 0, 0), SHALLOW), [10])

    def test_as_many_hours_of_rest_as_the_crew_needs(self):
        told = [begins(0, 10, 0), *snows(10, 10, 10)]
        self.assertEqual(last(*told, crew(1, 1, 0, 0), SHALLOW), [10])
        self.assertEqual(last(*told, crew(1, 2, 0, 0), SHALLOW), [20])

    def test_waiting_for_the_hour_in_which_most_falls(self):
        told = [begins(0, 10, 0), *snows(1, 1, 20)]
        self.assertEqual(last(*told, crew(1, 3, 0, 0), SHALLOW), [12])
        self.assertEqual(last(*told, crew(2, 3, 0, 0), SHALLOW), [10])
        self.assertEqual(last(*told, crew(1, 1, 0, 0), SHALLOW), [11])

    def test_what_was_refused_is_not_looked_at(self):
        told = [begins(3, 4, 0), snow(6), begins(0, 1001, 0), crew(11, 1, 0, 0), snow(101)]
        self.assertEqual(last(*told, SHALLOW), [5])


class MoreThanTheCrewCanClear(unittest.TestCase):
    def test_working_all_the_time(self):
        self.assertEqual(last(begins(0, 1, 0), crew(10, 1, 0, 0), *TEN_OF_HUNDRED, SHALLOW), [990])

    def test_one_hour_in_a_row(self):
        self.assertEqual(last(begins(0, 1, 0), crew(1, 1, 0, 0), *TEN_OF_HUNDRED, SHALLOW), [995])
        self.assertEqual(last(begins(0, 1, 0), crew(1, 10, 0, 0), *TEN_OF_HUNDRED, SHALLOW), [999])

    def test_deeper_than_may_be_told(self):
        self.assertEqual(last(begins(1000, 1, 1000), crew(1, 10, 0, 0), *TEN_OF_HUNDRED, SHALLOW), [1999])
        self.assertEqual(last(begins(1000, 1, 1000), crew(10, 10, 0, 0), *TEN_OF_HUNDRED, SHALLOW), [1990])


class NotHangingOn(unittest.TestCase):
    def test_how_deep_it_may_lie(self):
        for may in (0, 1, 9, 10, 11, 12, 13, 1000):
            with self.subTest(may=may):
                self.assertEqual(last(begins(0, 10, may), crew(1, 3, 5, 7), *snows(1, 1, 20), SHALLOW), [12])

    def test_what_anything_costs(self):
        for hour, call in ((0, 0), (0, 1000), (1000, 0), (1000, 1000)):
            with self.subTest(hour=hour, call=call):
                self.assertEqual(last(begins(0, 10, 50), crew(1, 3, hour, call), *snows(1, 1, 20), SHALLOW), [12])


class ToldAsHowDeepItMayLie(unittest.TestCase):
    def test_some_plan_can_be_and_with_one_less_none(self):
        told = [crew(1, 3, 5, 7), *snows(1, 1, 20)]
        self.assertEqual(ask(begins(0, 10, 12), *told, CHEAPEST, FEWEST)[-2:], [[12, 1, 1, 0, 0, 1], [1, 1, 1, 0, 0, 1]])
        self.assertEqual(ask(begins(0, 10, 11), *told, CHEAPEST, FEWEST)[-2:], [[-6], [-6]])


if __name__ == "__main__":
    unittest.main()
