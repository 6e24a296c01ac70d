"""Promise 1, begins: its three numbers, its refusal, and what it puts back."""

import unittest

from lines import LARGEST, ask, begins, check, crew, last, snow, snows


class Ordinary(unittest.TestCase):
    def test_answers_nought(self):
        self.assertEqual(ask(begins(7, 3, 12)), [[0]])

    def test_each_number_is_in_its_place(self):
        told = [begins(7, 3, 12), *snows(2, 2)]
        self.assertEqual(last(*told, check(0, 1)), [0, 1, 1, 9, 8])
        self.assertEqual(last(begins(12, 3, 7), *snows(2), check(0)), [-6, 0, 3])
        self.assertEqual(last(begins(12, 7, 7), *snows(2), check(1)), [0, 1, 1, 7])

    def test_the_later_one_counts(self):
        self.assertEqual(last(begins(7, 3, 12), begins(5, 4, 6), snow(1), check(1)), [0, 1, 1, 2])


class Ends(unittest.TestCase):
    def test_deep(self):
        self.assertEqual(ask(begins(0, 1, 1000), snow(0), check(0)), [[0], [0], [0, 0, 0, 0]])
        self.assertEqual(ask(begins(1000, 1, 1000), snow(0), check(0)), [[0], [0], [0, 0, 0, 1000]])
        self.assertEqual(ask(begins(1001, 1, 1000)), [[-1]])
        self.assertEqual(ask(begins(LARGEST, 1, 1000)), [[-1]])

    def test_clears(self):
        self.assertEqual(ask(begins(1000, 0, 1000)), [[-1]])
        self.assertEqual(ask(begins(1000, 1, 1000), snow(0), check(1)), [[0], [0], [0, 1, 1, 999]])
        self.assertEqual(ask(begins(1000, 1000, 1000), snow(3), check(0)), [[0], [0], [-6, 0, 3]])
        self.assertEqual(ask(begins(1000, 1000, 1000), snow(3), check(1)), [[0], [0], [0, 1, 1, 3]])
        self.assertEqual(ask(begins(1000, 1001, 1000)), [[-1]])
        self.assertEqual(ask(begins(1000, LARGEST, 1000)), [[-1]])

    def test_may(self):
        self.assertEqual(ask(begins(0, 1, 0), snow(0), check(0)), [[0], [0], [0, 0, 0, 0]])
        self.assertEqual(ask(begins(0, 1, 0), snow(1), check(0)), [[0], [0], [-6, 0, 3]])
        self.assertEqual(ask(begins(999, 1, 1000), snow(1), check(0)), [[0], [0], [0, 0, 0, 1000]])
        self.assertEqual(ask(begins(999, 1, 1000), snow(2), check(0)), [[0], [0], [-6, 0, 3]])
        self.assertEqual(ask(begins(0, 1, 1001)), [[-1]])
        self.assertEqual(ask(begins(0, 1, LARGEST)), [[-1]])

    def test_all_at_their_ends(self):
        self.assertEqual(ask(begins(0, 1, 0), begins(1000, 1000, 1000)), [[0], [0]])
        self.assertEqual(ask(begins(LARGEST, LARGEST, LARGEST)), [[-1]])


class Refused(unittest.TestCase):
    WRONG = (begins(1001, 3, 20), begins(4, 0, 20), begins(4, 1001, 20), begins(4, 3, 1001),
             begins(LARGEST, 0, LARGEST), begins(0, 0, 0))

    def test_all_is_as_it_was(self):
        told = [begins(7, 3, 12), crew(2, 3, 10, 100), *snows(2, 4, 1)]
        for wrong in self.WRONG:
            with self.subTest(wrong=wrong):
                before, refused, behind, number, longer = ask(
                    *told, check(1, 1, 0), wrong, check(1, 1, 0), snow(5), check(0, 1, 1, 0))[5:]
                self.assertEqual(before, [120, 2, 1, 6, 7, 8])
                self.assertEqual(refused, [-1])
                self.assertEqual(behind, before)
                self.assertEqual(number, [3])
                self.assertEqual(longer, [-6, 3, 3])

    def test_ahead_of_all_else(self):
        for wrong in self.WRONG:
            with self.subTest(wrong=wrong):
                self.assertEqual(ask(wrong, snow(1), check(1), snow(0), check(1, 1), check(1, 0)),
                                 [[-1], [0], [0, 1, 1, 0], [1], [-6, 1, 1], [0, 1, 1, 0, 0]])


class AllElsePutBack(unittest.TestCase):
    TOLD = (begins(7, 3, 12), crew(2, 3, 10, 100), *snows(2, 4, 1), begins(9, 2, 30))

    def test_no_hours_are_told(self):
        self.assertEqual(last(*self.TOLD, check(1, 1, 0)), [-1])
        self.assertEqual(last(*self.TOLD, check()), [0, 0, 0])
        self.assertEqual(last(*self.TOLD, snow(5)), [0])
        self.assertEqual(last(*self.TOLD, snow(5), check(0)), [0, 0, 0, 14])

    def test_ten_hours_have_room_again(self):
        told = [*snows(*range(10)), begins(0, 1, 1000), *snows(*range(10)), snow(1)]
        self.assertEqual(ask(*told), [[k] for k in range(10)] + [[0]] + [[k] for k in range(10)] + [[-5]])

    def test_one_hour_in_a_row(self):
        self.assertEqual(last(*self.TOLD, *snows(0, 0), check(1, 1)), [-6, 1, 1])

    def test_one_hour_of_rest(self):
        self.assertEqual(last(*self.TOLD, *snows(0, 0, 0), check(1, 0, 1)), [0, 2, 2, 7, 7, 5])

    def test_nothing_costs_anything(self):
        self.assertEqual(last(*self.TOLD, snow(0), check(1)), [0, 1, 1, 7])


if __name__ == "__main__":
    unittest.main()
