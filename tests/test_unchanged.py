"""cheapest, fewest and shallow leave the watch as it was."""

import unittest

from lines import CHEAPEST, FEWEST, SHALLOW, ask, begins, check, crew, snow, snows


class LeftAsItWas(unittest.TestCase):
    def test_where_some_plan_can_be(self):
        told = [begins(0, 5, 9), crew(2, 1, 10, 0), *snows(4, 6, 4, 5)]
        checks = [check(0, 1, 0, 1), check(0, 1, 1, 0), check(0, 0, 0, 0), check(1, 1, 1, 1), check(1, 1)]
        checked = [[20, 2, 2, 4, 5, 9, 9], [20, 2, 1, 4, 5, 4, 9], [-6, 1, 3], [-6, 2, 1], [-1]]
        cheapest, fewest, shallow = [20, 2, 2, 0, 1, 0, 1], [2, 1, 1, 0, 1, 1, 0], [5]
        answered = ask(*told, *checks, CHEAPEST, *checks, FEWEST, *checks, SHALLOW, *checks,
                       SHALLOW, FEWEST, CHEAPEST, CHEAPEST, *checks)[len(told):]
        self.assertEqual(answered, [*checked, cheapest, *checked, fewest, *checked, shallow, *checked,
                                    shallow, fewest, cheapest, cheapest, *checked])

    def test_where_none_can_be(self):
        told = [begins(0, 10, 11), crew(1, 3, 5, 7), *snows(1, 1, 20)]
        checks, checked = [check(0, 0, 1), check(1, 1, 0)], [[-6, 2, 3], [-6, 1, 1]]
        answered = ask(*told, *checks, CHEAPEST, *checks, FEWEST, *checks, SHALLOW, *checks,
                       CHEAPEST, FEWEST, SHALLOW, *checks)[len(told):]
        self.assertEqual(answered, [*checked, [-6], *checked, [-6], *checked, [12], *checked,
                                    [-6], [-6], [12], *checked])

    def test_snow_goes_on_with_the_next_hour(self):
        for call in (CHEAPEST, FEWEST, SHALLOW):
            with self.subTest(call=call):
                answered = ask(call, snow(0), call, call, snow(3), call, snow(101), snow(5), check(0, 0, 0))
                self.assertEqual([answered[at] for at in (1, 4, 6, 7)], [[0], [1], [-1], [2]])
                self.assertEqual(answered[8], [-6, 1, 3])

    def test_the_hour_told_next_is_looked_at(self):
        answered = ask(begins(0, 5, 9), crew(1, 1, 10, 100), snow(9), CHEAPEST, FEWEST, SHALLOW,
                       snow(6), CHEAPEST, FEWEST, SHALLOW)
        self.assertEqual(answered[3:6], [[0, 0, 1, 0], [0, 0, 1, 0], [4]])
        self.assertEqual(answered[7:], [[-6], [-6], [10]])

    def test_ten_hours_stay_ten(self):
        told = [begins(0, 1, 1000), *snows(*[1] * 10)]
        for call in (CHEAPEST, FEWEST, SHALLOW):
            with self.subTest(call=call):
                answered = ask(*told, call, snow(1), call, snow(101))
                self.assertEqual([answered[12], answered[14]], [[-5], [-1]])

    def test_a_begins_behind_them_begins_anew(self):
        answered = ask(snow(5), CHEAPEST, FEWEST, SHALLOW, begins(0, 1, 0), CHEAPEST, FEWEST, SHALLOW, snow(0))
        self.assertEqual(answered, [[0], [-6], [-6], [4], [0], [0, 0, 1], [0, 0, 1], [0], [0]])


if __name__ == "__main__":
    unittest.main()
