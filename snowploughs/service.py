"""A service with its ploughs and streets, and the calls of one line on it."""

BEGINS = 0
STREET = 1
APART = 2
TOGETHER = 3
CHECK = 4
BEST = 5
NEEDS = 6

MOST_PLOUGHS = 3
MOST_METRES = 1000
MOST_STREETS = 6
MOST_MINUTES = 1000

DONE = 0
WRONG_NUMBER = -1
NOT_THERE = -2
SAME_OR_TOLD = -4
FULL = -5
NO_PLAN = -6
APART_BROKEN = -6
TOGETHER_BROKEN = -7


class Service:
    """What has been told of the ploughs and streets so far."""

    def __init__(self):
        self.ploughs = [1]
        self.streets = []
        self.apart_pairs = []
        self.together_pairs = []

    def begin(self, ploughs):
        if not 1 <= len(ploughs) <= MOST_PLOUGHS:
            return [WRONG_NUMBER]
        if not all([is_metres(metres) for metres in ploughs]):
            return [WRONG_NUMBER]
        self.ploughs = list(ploughs)
        # What was told of streets goes with them: their numbers are given out anew.
        self.streets = []
        self.apart_pairs = []
        self.together_pairs = []
        return [DONE]

    def add_street(self, long):
        if not is_metres(long):
            return [WRONG_NUMBER]
        if len(self.streets) == MOST_STREETS:
            return [FULL]
        self.streets.append(long)
        return [len(self.streets) - 1]

    def tell_apart(self, street, other):
        return self.tell_pair(self.apart_pairs, street, other)

    def tell_together(self, street, other):
        return self.tell_pair(self.together_pairs, street, other)

    def tell_pair(self, pairs, street, other):
        if street >= len(self.streets) or other >= len(self.streets):
            return [NOT_THERE]
        if street == other or (street, other) in pairs or (other, street) in pairs:
            return [SAME_OR_TOLD]
        # Kept as it was told and behind the earlier ones, since check is to name the pair told first, as told.
        pairs.append((street, other))
        return [DONE]

    def check(self, plan):
        if not self.is_plan(plan):
            return [WRONG_NUMBER]
        refusal = self.why_not(plan)
        if refusal != []:
            return refusal
        return [DONE] + self.all_clear(plan) + self.shares_of(plan)

    def best(self):
        plans = self.plans_that_can_be()
        if plans == []:
            return [NO_PLAN]
        soonest = self.all_clear(plans[0])
        for plan in plans:
            clear = self.all_clear(plan)
            if is_less(clear, soonest):
                soonest = clear
        as_good = [plan for plan in plans if self.all_clear(plan) == soonest]
        return [DONE] + soonest + [len(as_good)] + as_good[0]

    def needs(self, plough, a, b):
        if plough >= len(self.ploughs):
            return [NOT_THERE]
        if not is_minutes(a) or not is_minutes(b):
            return [WRONG_NUMBER]
        enough = []
        for plan in self.plans_that_can_be():
            shares = self.shares_of(plan)
            if self.others_are_done(shares, plough, [a, b]):
                enough.append(least_metres(shares[plough], a, b))
        if enough == []:
            return [NO_PLAN]
        return [min(enough)]

    def plain(self):
        plan = self.street_by_street()
        possible = 1 if self.can_be(plan) else 0
        return [possible] + self.all_clear(plan) + plan

    def is_plan(self, plan):
        return len(plan) == len(self.streets) and all([plough < len(self.ploughs) for plough in plan])

    def why_not(self, plan):
        """The refusal of a plan that can't be, with its two streets; [] if the plan can be."""
        for street, other in self.apart_pairs:
            if plan[street] == plan[other]:
                return [APART_BROKEN, street, other]
        for street, other in self.together_pairs:
            if plan[street] != plan[other]:
                return [TOGETHER_BROKEN, street, other]
        return []

    def can_be(self, plan):
        return self.why_not(plan) == []

    def plans_that_can_be(self):
        """The earlier before the later."""
        return [plan for plan in every_plan(len(self.streets), len(self.ploughs)) if self.can_be(plan)]

    def shares_of(self, plan):
        """For each plough how many metres it has."""
        metres = [0] * len(self.ploughs)
        for street, plough in enumerate(plan):
            metres[plough] += self.streets[street]
        return metres

    def all_clear(self, plan):
        """When the last plough is done, in lowest terms, so that as good plans have equal ones."""
        last = [0, 1]
        for metres, speed in zip(self.shares_of(plan), self.ploughs):
            if is_less(last, [metres, speed]):
                last = [metres, speed]
        return lowest_terms(last)

    def others_are_done(self, shares, plough, minutes):
        """Whether each plough but this one, whose metres a minute don't count, is done within these minutes."""
        for other, speed in enumerate(self.ploughs):
            if other != plough and is_less(minutes, [shares[other], speed]):
                return False
        return True

    def street_by_street(self):
        plan = []
        shares = [0] * len(self.ploughs)
        for long in self.streets:
            plough = self.soonest_plough(shares, long)
            shares[plough] += long
            plan.append(plough)
        return plan

    def soonest_plough(self, shares, long):
        """The plough that would be done the soonest with this street and what it has; of several the lowest."""
        soonest = 0
        for plough, speed in enumerate(self.ploughs):
            if is_less([shares[plough] + long, speed], [shares[soonest] + long, self.ploughs[soonest]]):
                soonest = plough
        return soonest


def is_metres(number):
    return 1 <= number <= MOST_METRES


def is_minutes(number):
    return 1 <= number <= MOST_MINUTES


def is_less(fraction, other):
    return fraction[0] * other[1] < other[0] * fraction[1]


def lowest_terms(fraction):
    divisor = fraction[1]
    rest = fraction[0]
    while rest > 0:
        before = divisor
        divisor = rest
        rest = before % rest
    return [fraction[0] // divisor, fraction[1] // divisor]


def least_metres(share, a, b):
    """The least whole metres a minute, 1 at the least, by which a share is cleared within a by b minutes."""
    # Rounded up, since whole metres below would be too slow.
    return max(1, (share * b + a - 1) // a)


def every_plan(street_count, plough_count):
    """All plans for so many streets and ploughs, whether they can be or not, the earlier before the later."""
    plans = [[]]
    for street in range(street_count):
        longer = []
        for plan in plans:
            for plough in range(plough_count):
                longer.append(plan + [plough])
        plans = longer
    return plans


def call_length(calls, at):
    """How many numbers of the list the call that begins at this place takes."""
    number = calls[at]
    if number == BEGINS or number == CHECK:
        return 2 + calls[at + 1]
    if number == STREET:
        return 2
    if number == APART or number == TOGETHER:
        return 3
    if number == NEEDS:
        return 4
    return 1


def answer_call(service, call):
    number = call[0]
    if number == BEGINS:
        return service.begin(call[2:])
    if number == STREET:
        return service.add_street(call[1])
    if number == APART:
        return service.tell_apart(call[1], call[2])
    if number == TOGETHER:
        return service.tell_together(call[1], call[2])
    if number == CHECK:
        return service.check(call[2:])
    if number == BEST:
        return service.best()
    if number == NEEDS:
        return service.needs(call[1], call[2], call[3])
    # Nothing else is handed in, so what is left is 7.
    return service.plain()


def answers(calls):
    """For each call in order: how many numbers are answered, then these."""
    service = Service()
    told = []
    at = 0
    while at < len(calls):
        end = at + call_length(calls, at)
        answer = answer_call(service, calls[at:end])
        told.append(len(answer))
        told.extend(answer)
        at = end
    return told
