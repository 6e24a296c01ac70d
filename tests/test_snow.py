"""Promise 1, snow: the hours' numbers, its two refusals, and which of them is told."""

import unittest

from lines import LARGEST, ask, begins, check, crew, last, snow, snows


class Ordinary(unittest.TestCase):
    def test_numbers_go_from_nought(self):
        self.assertEqual(ask(*snows(5, 0, 5, 100, 1, 2, 3, 4, 5, 6)), [[k] for k in range(10)])

    def test_each_hour_keeps_what_falls_in_it(self):
        self.assertEqual(last(begins(1, 1, 1000), *snows(5, 0, 20, 3), check(0, 0, 0, 0)), [0, 0, 0, 6, 6, 26, 29])

    def test_calls_between_do_not_count_as_hours(self):
        self.assertEqual(ask(snow(0), check(0), snow(0), crew(2, 2, 2, 2), snow(0), crew(0, 0, 0, 0), snow(0)),
                         [[0], [0, 0, 0, 0], [1], [0], [2], [-1], [3]])


class Ends(unittest.TestCase):
    def test_how_much_falls(self):
        told = [begins(0, 1, 1000)]
        self.assertEqual(ask(*told, snow(0), check(0)), [[0], [0], [0, 0, 0, 0]])
        self.assertEqual(ask(*told, snow(100), check(0)), [[0], [0], [0, 0, 0, 100]])
        self.assertEqual(ask(*told, snow(101)), [[0], [-1]])
        self.assertEqual(ask(*told, snow(LARGEST)), [[0], [-1]])

    def test_the_tenth_hour_and_the_eleventh(self):
        self.assertEqual(ask(*snows(*[100] * 10), snow(0), snow(100))[9:], [[9], [-5], [-5]])

    def test_of_both_refusals_the_first_is_told(self):
        self.assertEqual(ask(*snows(*[0] * 10), snow(101), snow(LARGEST), snow(100))[10:], [[-1], [-1], [-5]])


class Refused(unittest.TestCase):
    def test_no_hour_comes_of_too_much(self):
        told = [begins(2, 1, 1000), crew(2, 1, 3, 4), snow(7)]
        self.assertEqual(ask(*told, snow(101), check(1), snow(8), snow(LARGEST), check(1, 1))[3:],
                         [[-1], [7, 1, 1, 8], [1], [-1], [10, 2, 1, 8, 15]])

    def test_no_hour_comes_behind_the_tenth(self):
        told = [begins(2, 1, 1000), crew(2, 1, 3, 4), *snows(*range(10))]
        plan = check(1, 1, 0, 0, 0, 0, 0, 0, 0, 1)
        cost = [17, 3, 2, 1, 1, 3, 6, 10, 15, 21, 28, 36, 44]
        eleven = check(*[0] * 11)
        self.assertEqual(ask(*told, plan, snow(50), plan, eleven, snow(101), plan, eleven)[12:],
                         [cost, [-5], cost, [-1], [-1], cost, [-1]])


if __name__ == "__main__":
    unittest.main()
