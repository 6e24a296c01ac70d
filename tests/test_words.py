"""check against the document's words, taken one by one: every plan of many watches."""

import itertools
import unittest

from lines import ask, begins, check, crew, snows


def depths(deep, clears, falls, plan):
    behind = []
    for much, works in zip(falls, plan):
        deep += much
        deep -= min(deep, clears) * works
        behind.append(deep)
    return behind


def is_call_out(plan, hour):
    return plan[hour] == 1 and (hour == 0 or plan[hour - 1] == 0)


def too_long(plan, hour, row):
    return plan[hour] == 1 and hour >= row and all(plan[hour - row:hour])


def too_soon(plan, hour, rest):
    worked = [k for k in range(hour) if plan[k] == 1]
    return is_call_out(plan, hour) and worked != [] and hour - worked[-1] - 1 < rest


def expected(told, plan):
    deep, clears, may, row, rest, hour_costs, call_costs, falls = told
    behind = depths(deep, clears, falls, plan)
    for hour in range(len(plan)):
        wrong = (too_long(plan, hour, row), too_soon(plan, hour, rest), behind[hour] > may)
        if any(wrong):
            return [-6, hour, wrong.index(True) + 1]
    call_outs = sum(is_call_out(plan, hour) for hour in range(len(plan)))
    return [sum(plan) * hour_costs + call_outs * call_costs, sum(plan), call_outs, *behind]


class EveryPlan(unittest.TestCase):
    def compare(self, told):
        deep, clears, may, row, rest, hour_costs, call_costs, falls = told
        start = [begins(deep, clears, may), crew(row, rest, hour_costs, call_costs), *snows(*falls)]
        plans = list(itertools.product((0, 1), repeat=len(falls)))
        for first in range(0, len(plans), 40):
            some = plans[first:first + 40]
            answered = ask(*start, *[check(*plan) for plan in some])[len(start):]
            for plan, answer in zip(some, answered):
                self.assertEqual(answer, expected(told, plan), (told, plan))

    def test_of_five_hours(self):
        falls = ((0, 0, 0, 0, 0), (1, 2, 3, 4, 5), (9, 0, 0, 7, 1), (2, 2, 2, 2, 2))
        for row, rest, may, much in itertools.product(range(1, 5), range(1, 5), (0, 4, 11, 1000), falls):
            self.compare((3, 4, may, row, rest, 7, 50, much))

    def test_of_ten_hours(self):
        falls = (3, 0, 5, 1, 1, 8, 0, 2, 6, 4)
        for row, rest, may in ((1, 1, 9), (2, 3, 14), (3, 1, 12), (10, 10, 1000), (4, 2, 1000), (2, 2, 1000)):
            self.compare((4, 6, may, row, rest, 13, 1000, falls))


if __name__ == "__main__":
    unittest.main()
