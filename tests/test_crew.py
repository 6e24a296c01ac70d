"""Promise 1, crew: its four numbers, its refusal, and what it leaves alone."""

import unittest

from lines import LARGEST, ask, begins, check, crew, last, snow, snows

DEEP_NIGHT = begins(0, 1, 1000)


class Ordinary(unittest.TestCase):
    def test_answers_nought(self):
        self.assertEqual(ask(crew(2, 3, 10, 100)), [[0]])

    def test_each_number_is_in_its_place(self):
        told = [DEEP_NIGHT, crew(2, 3, 10, 700), *snows(0, 0, 0, 0, 0, 0)]
        self.assertEqual(last(*told, check(1, 1, 0, 0, 0, 1)), [3 * 10 + 2 * 700, 3, 2, 0, 0, 0, 0, 0, 0])
        self.assertEqual(last(*told, check(1, 1, 1, 0, 0, 0)), [-6, 2, 1])
        self.assertEqual(last(*told, check(1, 1, 0, 0, 1, 0)), [-6, 4, 2])

    def test_the_later_one_counts(self):
        told = [DEEP_NIGHT, crew(2, 3, 10, 700), *snows(0, 0, 0), crew(1, 1, 5, 20)]
        self.assertEqual(last(*told, check(1, 0, 1)), [50, 2, 2, 0, 0, 0])
        self.assertEqual(last(*told, check(1, 1, 0)), [-6, 1, 1])

    def test_leaves_depths_and_hours_alone(self):
        told = [begins(7, 3, 12), *snows(2, 4), crew(2, 3, 10, 100)]
        self.assertEqual(last(*told, check(1, 1)), [120, 2, 1, 6, 7])
        self.assertEqual(last(*told, check(0, 0)), [-6, 1, 3])
        self.assertEqual(last(*told, snow(1)), [2])


class Ends(unittest.TestCase):
    def test_hours_in_a_row(self):
        self.assertEqual(last(crew(0, 1, 0, 0)), [-1])
        self.assertEqual(ask(crew(1, 1, 0, 0), *snows(0, 0), check(1, 0))[0::3], [[0], [0, 1, 1, 0, 0]])
        self.assertEqual(last(crew(1, 1, 0, 0), *snows(0, 0), check(1, 1)), [-6, 1, 1])
        self.assertEqual(last(crew(9, 1, 0, 0), *snows(*[0] * 10), check(*[1] * 10)), [-6, 9, 1])
        self.assertEqual(ask(crew(10, 1, 0, 0), *snows(*[0] * 10), check(*[1] * 10))[0::11],
                         [[0], [0, 10, 1] + [0] * 10])
        self.assertEqual(last(crew(11, 1, 0, 0)), [-1])
        self.assertEqual(last(crew(LARGEST, 1, 0, 0)), [-1])

    def test_hours_of_rest(self):
        ten = snows(*[0] * 10)
        far_apart = check(1, *[0] * 8, 1)
        self.assertEqual(last(crew(1, 0, 0, 0)), [-1])
        self.assertEqual(last(crew(1, 1, 0, 0), *snows(0, 0, 0), check(1, 0, 1)), [0, 2, 2, 0, 0, 0])
        self.assertEqual(last(crew(1, 8, 0, 0), *ten, far_apart), [0, 2, 2] + [0] * 10)
        self.assertEqual(last(crew(1, 9, 0, 0), *ten, far_apart), [-6, 9, 2])
        self.assertEqual(ask(crew(1, 10, 0, 0), *ten, far_apart)[0::11], [[0], [-6, 9, 2]])
        self.assertEqual(last(crew(1, 11, 0, 0)), [-1])
        self.assertEqual(last(crew(1, LARGEST, 0, 0)), [-1])

    def test_what_an_hour_costs(self):
        told = snows(0, 0)
        self.assertEqual(last(*told, crew(2, 1, 0, 0), check(1, 1)), [0, 2, 1, 0, 0])
        self.assertEqual(last(*told, crew(2, 1, 1, 0), check(1, 1)), [2, 2, 1, 0, 0])
        self.assertEqual(last(*told, crew(2, 1, 1000, 0), check(1, 1)), [2000, 2, 1, 0, 0])
        self.assertEqual(last(crew(2, 1, 1001, 0)), [-1])
        self.assertEqual(last(crew(2, 1, LARGEST, 0)), [-1])

    def test_what_a_call_out_costs(self):
        told = snows(0, 0)
        self.assertEqual(last(*told, crew(2, 1, 0, 1), check(1, 1)), [1, 2, 1, 0, 0])
        self.assertEqual(last(*told, crew(2, 1, 0, 1000), check(1, 1)), [1000, 2, 1, 0, 0])
        self.assertEqual(last(crew(2, 1, 0, 1001)), [-1])
        self.assertEqual(last(crew(2, 1, 0, LARGEST)), [-1])

    def test_all_at_their_ends(self):
        self.assertEqual(ask(crew(1, 1, 0, 0), crew(10, 10, 1000, 1000)), [[0], [0]])
        self.assertEqual(ask(crew(LARGEST, LARGEST, LARGEST, LARGEST), crew(0, 0, 0, 0)), [[-1], [-1]])


class Refused(unittest.TestCase):
    WRONG = (crew(0, 2, 3, 4), crew(11, 2, 3, 4), crew(1, 0, 3, 4), crew(1, 11, 3, 4),
             crew(1, 2, 1001, 4), crew(1, 2, 3, 1001), crew(LARGEST, 0, LARGEST, LARGEST))

    def test_all_is_as_it_was(self):
        told = [begins(9, 3, 12), crew(2, 3, 10, 100), *snows(2, 3, 1, 0, 0, 0)]
        plans = [check(1, 1, 0, 0, 0, 1), check(1, 1, 1, 0, 0, 0), check(1, 1, 0, 0, 1, 0), check(0, 0, 0, 0, 0, 0)]
        expected = [[230, 3, 2, 8, 8, 9, 9, 9, 6], [-6, 2, 1], [-6, 4, 2], [-6, 1, 3]]
        for wrong in self.WRONG:
            with self.subTest(wrong=wrong):
                answered = ask(*told, *plans, wrong, *plans, snow(0))[len(told):]
                self.assertEqual(answered, expected + [[-1]] + expected + [[6]])

    def test_ahead_of_all_else(self):
        for wrong in self.WRONG:
            with self.subTest(wrong=wrong):
                self.assertEqual(ask(wrong, *snows(0, 0, 0), check(1, 1, 0), check(1, 0, 1)),
                                 [[-1], [0], [1], [2], [-6, 1, 1], [0, 2, 2, 0, 0, 0]])


if __name__ == "__main__":
    unittest.main()
