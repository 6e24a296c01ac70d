"""check, cheapest, fewest and shallow against the document's words, taken one by one: every plan of many watches."""

import itertools
import random
import unittest

from lines import CHEAPEST, FEWEST, SHALLOW, ask, begins, check, crew, snows


def depths(deep, clears, falls, plan):
    behind = []
    for much, works in zip(falls, plan):
        deep += much
        deep -= min(deep, clears) * works
        behind.append(deep)
    return behind


def is_call_out(plan, hour):
    return plan[hour] == 1 and (hour == 0 or plan[hour - 1] == 0)


def too_long(plan, hour, row):
    return plan[hour] == 1 and hour >= row and all(plan[hour - row:hour])


def too_soon(plan, hour, rest):
    worked = [k for k in range(hour) if plan[k] == 1]
    return is_call_out(plan, hour) and worked != [] and hour - worked[-1] - 1 < rest


def expected(told, plan):
    deep, clears, may, row, rest, hour_costs, call_costs, falls = told
    behind = depths(deep, clears, falls, plan)
    for hour in range(len(plan)):
        wrong = (too_long(plan, hour, row), too_soon(plan, hour, rest), behind[hour] > may)
        if any(wrong):
            return [-6, hour, wrong.index(True) + 1]
    call_outs = sum(is_call_out(plan, hour) for hour in range(len(plan)))
    return [sum(plan) * hour_costs + call_outs * call_costs, sum(plan), call_outs, *behind]


def all_plans(told):
    return list(itertools.product((0, 1), repeat=len(told[-1])))


def that_can_be(told):
    """What check is to answer for each plan that can be."""
    checked = {plan: expected(told, plan) for plan in all_plans(told)}
    return {plan: answer for plan, answer in checked.items() if answer[0] != -6}


def earlier(one, other):
    for here, there in zip(one, other):
        if here != there:
            return one if here == 0 else other
    return one


def earliest(plans):
    found = plans[0]
    for plan in plans:
        found = earlier(found, plan)
    return found


def expected_best(can_be, first, second):
    """The plans with the least of check's number at the place first, then of the one at second."""
    if can_be == {}:
        return [-6]
    least = min(answer[first] for answer in can_be.values())
    can_be = {plan: answer for plan, answer in can_be.items() if answer[first] == least}
    next_least = min(answer[second] for answer in can_be.values())
    as_good = [plan for plan, answer in can_be.items() if answer[second] == next_least]
    return [least, next_least, len(as_good), *earliest(as_good)]


def told_it_may_lie(told, may):
    return (*told[:2], may, *told[3:])


def start(told):
    deep, clears, may, row, rest, hour_costs, call_costs, falls = told
    return [begins(deep, clears, may), crew(row, rest, hour_costs, call_costs), *snows(*falls)]


class EveryPlan(unittest.TestCase):
    def compare(self, told):
        calls = start(told)
        plans = all_plans(told)
        for first in range(0, len(plans), 40):
            some = plans[first:first + 40]
            answered = ask(*calls, *[check(*plan) for plan in some])[len(calls):]
            for plan, answer in zip(some, answered):
                self.assertEqual(answer, expected(told, plan), (told, plan))

    def test_of_five_hours(self):
        falls = ((0, 0, 0, 0, 0), (1, 2, 3, 4, 5), (9, 0, 0, 7, 1), (2, 2, 2, 2, 2))
        for row, rest, may, much in itertools.product(range(1, 5), range(1, 5), (0, 4, 11, 1000), falls):
            self.compare((3, 4, may, row, rest, 7, 50, much))

    def test_of_ten_hours(self):
        falls = (3, 0, 5, 1, 1, 8, 0, 2, 6, 4)
        for row, rest, may in ((1, 1, 9), (2, 3, 14), (3, 1, 12), (10, 10, 1000), (4, 2, 1000), (2, 2, 1000)):
            self.compare((4, 6, may, row, rest, 13, 1000, falls))


class Best(unittest.TestCase):
    def setUp(self):
        # A fixed seed: the watches are the same each time.
        self.numbers = random.Random(5)

    def watch_of(self, hours, most_deep, most_fall):
        number, one_of = self.numbers.randint, self.numbers.choice
        depths_and_clears = (number(0, most_deep), number(1, most_fall + 1), number(0, most_deep + most_fall))
        crew_hours = (one_of((1, 2, 3, 10)), one_of((1, 2, 3, 10)))
        costs = (one_of((0, 1, 2, 1000)), one_of((0, 1, 2, 1000)))
        return (*depths_and_clears, *crew_hours, *costs, tuple(number(0, most_fall) for hour in range(hours)))

    def compare_cheapest_and_fewest(self, told):
        """How many plans are as good as the cheapest, 0 if no plan can be."""
        can_be = that_can_be(told)
        cheapest, fewest = ask(*start(told), CHEAPEST, FEWEST)[-2:]
        self.assertEqual(cheapest, expected_best(can_be, 0, 1), told)
        self.assertEqual(fewest, expected_best(can_be, 1, 2), told)
        if cheapest == [-6]:
            return 0
        of_cheapest, of_fewest = ask(*start(told), check(*cheapest[3:]), check(*fewest[3:]))[-2:]
        self.assertEqual(of_cheapest[:2], cheapest[:2], told)
        self.assertEqual(of_fewest[1:3], fewest[:2], told)
        self.assertLessEqual(of_cheapest[0], of_fewest[0], told)
        self.assertLessEqual(of_fewest[1], of_cheapest[1], told)
        return cheapest[2]

    def compare_shallow(self, told):
        answer = ask(*start(told), SHALLOW)[-1]
        self.assertEqual(len(answer), 1, told)
        least = answer[0]
        self.assertGreaterEqual(least, 0, told)
        self.assertNotEqual(that_can_be(told_it_may_lie(told, least)), {}, told)
        if least > 0:
            self.assertEqual(that_can_be(told_it_may_lie(told, least - 1)), {}, told)
        if least <= 1000:
            self.assertNotEqual(ask(*start(told_it_may_lie(told, least)), CHEAPEST)[-1], [-6], told)
        if 0 < least <= 1001:
            self.assertEqual(ask(*start(told_it_may_lie(told, least - 1)), CHEAPEST, FEWEST)[-2:], [[-6], [-6]], told)

    def compare_all(self, watches):
        as_good = []
        for told in watches:
            as_good.append(self.compare_cheapest_and_fewest(told))
            self.compare_shallow(told)
        return as_good

    # What the watches hold is looked at too: too few of a kind among them would leave a fault unseen.

    def test_of_up_to_six_hours(self):
        as_good = self.compare_all([self.watch_of(hours, 9, 9) for hours in list(range(7)) * 70])
        for count in (0, 1, 2, 3):
            self.assertGreaterEqual(as_good.count(count), 10, count)

    def test_of_ten_hours(self):
        as_good = self.compare_all([self.watch_of(10, *most) for most in [(9, 4), (40, 10), (900, 100)] * 8])
        self.assertIn(0, as_good)
        self.assertIn(1, as_good)
        self.assertGreaterEqual(sum(count > 1 for count in as_good), 4)


if __name__ == "__main__":
    unittest.main()
