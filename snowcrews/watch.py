"""The calls about one watch, and what they answer."""

BEGINS = 0
CREW = 1
SNOW = 2
CHECK = 3
CHEAPEST = 4
FEWEST = 5
SHALLOW = 6

NOT_AS_TOLD = -1
NO_HOUR_LEFT = -5
CANNOT_BE = -6

NOTHING_WRONG = 0
TOO_LONG = 1
TOO_SOON = 2
TOO_DEEP = 3

MOST_DEPTH = 1000
MOST_COST = 1000
MOST_CREW_HOURS = 10
MOST_FALL = 100
MOST_HOURS = 10


class Night:
    """What the hours of a plan have come to, as far as it has been gone through."""

    def __init__(self, depth):
        self.depth = depth
        self.depths = []
        self.plan = []
        self.worked = 0
        self.call_outs = 0
        self.in_row = 0
        self.rested = 0

    def copied(self):
        """Another night that has come to the same, to go on from here in another way."""
        other = Night(self.depth)
        other.depths = list(self.depths)
        other.plan = list(self.plan)
        other.worked = self.worked
        other.call_outs = self.call_outs
        other.in_row = self.in_row
        other.rested = self.rested
        return other

    def works(self):
        """The crew works in the next hour."""
        self.plan.append(1)
        if self.in_row == 0:
            self.call_outs += 1
        self.worked += 1
        self.in_row += 1
        self.rested = 0

    def rests(self):
        """The crew does not work in the next hour."""
        self.plan.append(0)
        self.in_row = 0
        self.rested += 1

    def lies(self, depth):
        """So deep it lies behind the hour."""
        self.depth = depth
        self.depths.append(depth)

    def deepest(self):
        """The most that it lies behind any hour: how deep it lies ahead of the first does not count."""
        return max([0] + self.depths)


class Watch:
    """What is told of one watch. Each call gives back the list of its answer's numbers."""

    def __init__(self):
        self.start_over(0, 1, 0)

    def start_over(self, deep, clears, may_lie):
        """These three as handed in, all else as at the beginning."""
        self.deep = deep
        self.clears = clears
        self.may_lie = may_lie
        self.most_in_row = 1
        self.least_rest = 1
        self.hour_costs = 0
        self.call_costs = 0
        self.falls = []

    def begins(self, deep, clears, may_lie):
        if not (0 <= deep <= MOST_DEPTH and 1 <= clears <= MOST_DEPTH and 0 <= may_lie <= MOST_DEPTH):
            return [NOT_AS_TOLD]
        self.start_over(deep, clears, may_lie)
        return [0]

    def crew(self, in_row, rest, hour_costs, call_costs):
        if not (1 <= in_row <= MOST_CREW_HOURS and 1 <= rest <= MOST_CREW_HOURS):
            return [NOT_AS_TOLD]
        if not (0 <= hour_costs <= MOST_COST and 0 <= call_costs <= MOST_COST):
            return [NOT_AS_TOLD]
        self.most_in_row = in_row
        self.least_rest = rest
        self.hour_costs = hour_costs
        self.call_costs = call_costs
        return [0]

    def snow(self, much):
        if not 0 <= much <= MOST_FALL:
            return [NOT_AS_TOLD]
        if len(self.falls) == MOST_HOURS:
            return [NO_HOUR_LEFT]
        self.falls.append(much)
        return [len(self.falls) - 1]

    def check(self, plan):
        if not self.is_plan(plan):
            return [NOT_AS_TOLD]
        night = Night(self.deep)
        for hour, works in enumerate(plan):
            wrong = self.pass_hour(night, self.falls[hour], works)
            if wrong != NOTHING_WRONG:
                return [CANNOT_BE, hour, wrong]
        return [self.cost(night), night.worked, night.call_outs] + night.depths

    def cheapest(self):
        return best_answer([(self.cost(night), night.worked, night.plan) for night in self.nights_that_can_be()])

    def fewest(self):
        return best_answer([(night.worked, night.call_outs, night.plan) for night in self.nights_that_can_be()])

    def shallow(self):
        # A crew that never works does nothing wrong, so there is always a night to take the least of.
        return [min([night.deepest() for night in self.nights_of_crew()])]

    def nights_that_can_be(self):
        """The nights of all plans that can be."""
        return [night for night in self.nights_of_crew() if night.deepest() <= self.may_lie]

    def nights_of_crew(self):
        """The nights of all plans in which the crew works neither too long nor too soon, however deep it lies."""
        nights = [Night(self.deep)]
        for fall in self.falls:
            longer = []
            for night in nights:
                for works in (0, 1):
                    other = night.copied()
                    if self.pass_hour(other, fall, works) in (NOTHING_WRONG, TOO_DEEP):
                        longer.append(other)
            nights = longer
        return nights

    def is_plan(self, numbers):
        return len(numbers) == len(self.falls) and all([number in (0, 1) for number in numbers])

    def pass_hour(self, night, fall, works):
        """Goes one hour on in the night, up to what is wrong in it, and gives that back."""
        depth = night.depth + fall
        if works == 1:
            wrong = self.wrong_with_work(night)
            if wrong != NOTHING_WRONG:
                return wrong
            night.works()
            depth = max(0, depth - self.clears)
        else:
            night.rests()
        night.lies(depth)
        return TOO_DEEP if depth > self.may_lie else NOTHING_WRONG

    def wrong_with_work(self, night):
        """What is wrong if the crew works in the hour that comes next."""
        if night.in_row == self.most_in_row:
            return TOO_LONG
        # The first call-out of a night needs no rest ahead of it.
        if night.in_row == 0 and night.worked > 0 and night.rested < self.least_rest:
            return TOO_SOON
        return NOTHING_WRONG

    def cost(self, night):
        return night.worked * self.hour_costs + night.call_outs * self.call_costs


def best_answer(ranked):
    """The answer for all plans that can be, each with two numbers ahead of it of which less is better."""
    if len(ranked) == 0:
        return [CANNOT_BE]
    # Of plans with the same two numbers the least is the earlier one: it has 0 where they first differ.
    best = min(ranked)
    as_good = [rank for rank in ranked if rank[0] == best[0] and rank[1] == best[1]]
    return [best[0], best[1], len(as_good)] + best[2]


def answers(calls):
    """For each call of the list, in order: how many numbers are answered, then these."""
    watch = Watch()
    answered = []
    at = 0
    while at < len(calls):
        begin = numbers_begin(calls, at)
        end = begin + numbers_count(calls, at)
        answer = answer_call(watch, calls[at], calls[begin:end])
        answered.append(len(answer))
        answered.extend(answer)
        at = end
    return answered


def numbers_begin(calls, at):
    """Where the numbers of the call at this place begin: a plan has its count before it."""
    return at + 2 if calls[at] == CHECK else at + 1


def numbers_count(calls, at):
    if calls[at] == CHECK:
        return calls[at + 1]
    counts = {BEGINS: 3, CREW: 4, SNOW: 1, CHEAPEST: 0, FEWEST: 0, SHALLOW: 0}
    return counts[calls[at]]


def answer_call(watch, call, numbers):
    if call == BEGINS:
        return watch.begins(numbers[0], numbers[1], numbers[2])
    if call == CREW:
        return watch.crew(numbers[0], numbers[1], numbers[2], numbers[3])
    if call == SNOW:
        return watch.snow(numbers[0])
    if call == CHECK:
        return watch.check(numbers)
    if call == CHEAPEST:
        return watch.cheapest()
    if call == FEWEST:
        return watch.fewest()
    return watch.shallow()
