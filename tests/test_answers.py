"""The interface: how calls are read from the one list, and how answers are given back."""

import contextlib
import io
import time
import unittest

from lines import CHEAPEST, FEWEST, SHALLOW, begins, check, crew, line, snow, snows
from snowcrews.watch import answers

LONG = line(begins(7, 3, 12), crew(2, 3, 10, 100), *snows(2, 4, 1), check(1, 1, 0), check(0, 0, 0), check(1),
            snow(101), begins(0, 0, 0), check(0, 1, 1), begins(1, 1, 2), check(), snow(1), check(0))

LONG_ANSWERED = [1, 0, 1, 0, 1, 0, 1, 1, 1, 2, 6, 120, 2, 1, 6, 7, 8, 3, -6, 1, 3, 1, -1,
                 1, -1, 1, -1, 6, 120, 2, 1, 9, 10, 8, 1, 0, 3, 0, 0, 0, 1, 0, 4, 0, 0, 0, 2]


# Behind what LONG tells last: one hour in which 1 falls, 1 lies at the beginning, 2 may.
LONG_AND_BEST = LONG + line(CHEAPEST, SHALLOW, FEWEST, snow(1), FEWEST, CHEAPEST, SHALLOW, snow(9), CHEAPEST)

LONG_AND_BEST_ANSWERED = LONG_ANSWERED + [4, 0, 0, 1, 0, 1, 1, 4, 0, 0, 1, 0, 1, 1, 5, 1, 1, 2, 0, 1,
                                          5, 0, 1, 2, 0, 1, 1, 2, 1, 2, 1, -6]


class Untouched(list):
    """A list that fails where it is changed."""

    def changed(self, *args, **kwargs):
        raise AssertionError("the list handed in was changed")

    append = extend = insert = remove = pop = clear = sort = reverse = changed
    __setitem__ = __delitem__ = __iadd__ = __imul__ = changed


class Counts(unittest.TestCase):
    def test_one_call_by_itself(self):
        self.assertEqual(answers([0, 7, 3, 12]), [1, 0])
        self.assertEqual(answers([0, 7, 0, 12]), [1, -1])
        self.assertEqual(answers([1, 2, 3, 10, 100]), [1, 0])
        self.assertEqual(answers([1, 0, 3, 10, 100]), [1, -1])
        self.assertEqual(answers([2, 5]), [1, 0])
        self.assertEqual(answers([2, 101]), [1, -1])
        self.assertEqual(answers([3, 0]), [3, 0, 0, 0])
        self.assertEqual(answers([3, 1, 0]), [1, -1])
        self.assertEqual(answers([3, 12, 0, 1, 2, 3, 0, 1, 2, 3, 0, 1, 2, 3]), [1, -1])

    def test_a_call_without_numbers_by_itself(self):
        self.assertEqual(answers([4]), [3, 0, 0, 1])
        self.assertEqual(answers([5]), [3, 0, 0, 1])
        self.assertEqual(answers([6]), [1, 0])

    def test_calls_without_numbers_among_others(self):
        self.assertEqual(answers([2, 1, 4, 5, 6, 2, 0]), [1, 0, 4, 0, 1, 1, 1, 4, 1, 1, 1, 1, 1, 0, 1, 1])
        self.assertEqual(answers([4, 2, 2, 5, 4, 6, 3, 1, 1]), [3, 0, 0, 1, 1, 0, 1, -6, 1, -6, 1, 1, 3, -6, 0, 3])

    def test_what_is_behind_a_refusal(self):
        self.assertEqual(answers([2, 1, 3, 1, 0, 2, 5]), [1, 0, 3, -6, 0, 3, 1, 1])
        self.assertEqual(answers([2, 0] * 10 + [2, 0, 3, 0, 2, 101]), [n for k in range(10) for n in (1, k)]
                         + [1, -5, 1, -1, 1, -1])

    def test_several_calls(self):
        self.assertEqual(answers(LONG), LONG_ANSWERED)
        self.assertEqual(answers(LONG_AND_BEST), LONG_AND_BEST_ANSWERED)

    def test_a_refused_plan_is_passed_over_whole(self):
        self.assertEqual(answers([3, 4, 0, 3, 0, 2, 2, 7, 3, 1, 9, 3, 0, 2, 8]), [1, -1, 1, 0, 1, -1, 1, -1, 1, 1])

    def test_sixty_calls(self):
        calls = line(begins(0, 1, 1000), *snows(*[1] * 10), *[check(*[0] * 10)] * 49)
        answered = [1, 0] + [n for k in range(10) for n in (1, k)] + [13, 0, 0, 0, *range(1, 11)] * 49
        self.assertEqual(answers(calls), answered)


class SixtyWithEight(unittest.TestCase):
    """Sixty calls, eight of cheapest, fewest and shallow among them, on ten hours; all 1024 plans can be."""

    BEST = [CHEAPEST, FEWEST, SHALLOW, CHEAPEST, FEWEST, SHALLOW, CHEAPEST, FEWEST]
    CALLS = line(begins(0, 1, 1000), crew(10, 1, 10, 100), *snows(*[100] * 10), *[check(*[1] * 10)] * 20, *BEST,
                 *[check(*[0] * 10)] * 20)
    NO_WORK = [13, 0, 0, 1] + [0] * 10
    ANSWERED = ([1, 0, 1, 0] + [n for k in range(10) for n in (1, k)]
                + ([13, 200, 10, 1] + [99 * k for k in range(1, 11)]) * 20
                + (NO_WORK * 2 + [1, 990]) * 2 + NO_WORK * 2
                + ([13, 0, 0, 0] + [100 * k for k in range(1, 11)]) * 20)

    def test_what_is_answered(self):
        self.assertEqual(answers(self.CALLS), self.ANSWERED)

    def test_how_long_it_takes(self):
        before = time.perf_counter()
        answers(self.CALLS)
        # Far above what it takes, so that a busy machine does not count as a fault.
        self.assertLess(time.perf_counter() - before, 2)

    def test_the_list_is_the_same_and_a_second_time_gives_the_same(self):
        calls = list(self.CALLS)
        self.assertEqual(answers(calls), self.ANSWERED)
        self.assertEqual(calls, self.CALLS)
        self.assertEqual(answers(calls), self.ANSWERED)

    def test_other_calls_between(self):
        calls = line(*snows(*[1, 0] * 5), *[CHEAPEST, *[check(*[1, 0] * 5)] * 5] * 8, snow(0), snow(101))
        answered = ([n for k in range(10) for n in (1, k)]
                    + ([13, 0, 5, 1] + [1, 0] * 5 + ([13, 0, 5, 5] + [0] * 10) * 5) * 8 + [1, -5, 1, -1])
        self.assertEqual(len(calls), 20 + 8 + 40 * 12 + 4)
        self.assertEqual(answers(calls), answered)


class Kinds(unittest.TestCase):
    def test_whole_numbers_in_a_list(self):
        answered = answers(list(LONG_AND_BEST))
        self.assertIs(type(answered), list)
        self.assertEqual({type(number) for number in answered}, {int})


class HandedIn(unittest.TestCase):
    def test_the_list_is_the_same_afterwards(self):
        calls = list(LONG_AND_BEST)
        answered = answers(calls)
        self.assertEqual(calls, LONG_AND_BEST)
        answered.append(5)
        self.assertEqual(calls, LONG_AND_BEST)

    def test_the_list_is_not_changed_for_a_while_either(self):
        self.assertEqual(answers(Untouched(LONG_AND_BEST)), LONG_AND_BEST_ANSWERED)


class NothingKept(unittest.TestCase):
    def test_a_second_time_gives_the_same(self):
        calls = list(LONG_AND_BEST)
        first = answers(calls)
        self.assertEqual(answers(calls), first)
        first.clear()
        self.assertEqual(answers(calls), LONG_AND_BEST_ANSWERED)

    def test_every_line_is_about_a_new_watch(self):
        answers(line(begins(7, 3, 12), crew(2, 3, 10, 100), *snows(2, 4, 1)))
        self.assertEqual(answers(line(check(), snow(1), check(0), check(1), snow(0), check(1, 1), check(1, 0))),
                         [3, 0, 0, 0, 1, 0, 3, -6, 0, 3, 4, 0, 1, 1, 0, 1, 1, 3, -6, 1, 1, 5, 0, 1, 1, 0, 0])


class Silent(unittest.TestCase):
    def test_nothing_is_printed(self):
        out, err = io.StringIO(), io.StringIO()
        with contextlib.redirect_stdout(out), contextlib.redirect_stderr(err):
            answers(list(LONG_AND_BEST))
        self.assertEqual((out.getvalue(), err.getvalue()), ("", ""))


if __name__ == "__main__":
    unittest.main()
