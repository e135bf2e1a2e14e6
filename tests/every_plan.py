"""A second way to the answers, slow and plain: it looks at every plan, with Python's own fractions."""

import itertools
from fractions import Fraction


class Told:
    """A service as it is told: its ploughs, its streets, and the pairs of streets."""

    def __init__(self, ploughs, longs, apart=(), together=()):
        self.ploughs = ploughs
        self.longs = longs
        self.apart = apart
        self.together = together

    def calls(self):
        calls = [[0, len(self.ploughs), *self.ploughs]]
        calls += [[1, long] for long in self.longs]
        calls += [[2, *pair] for pair in self.apart]
        calls += [[3, *pair] for pair in self.together]
        return calls

    def every_plan(self):
        return itertools.product(range(len(self.ploughs)), repeat=len(self.longs))

    def can_be(self, plan):
        return (all(plan[one] != plan[other] for one, other in self.apart)
                and all(plan[one] == plan[other] for one, other in self.together))

    def metres(self, plan, plough):
        return sum(long for long, own in zip(self.longs, plan) if own == plough)

    def clear(self, plan):
        return max(Fraction(self.metres(plan, plough), speed) for plough, speed in enumerate(self.ploughs))

    def with_plough(self, plough, speed):
        ploughs = list(self.ploughs)
        ploughs[plough] = speed
        return Told(ploughs, self.longs, self.apart, self.together)

    def can_be_clear_within(self, minutes):
        return any(self.can_be(plan) and self.clear(plan) <= minutes for plan in self.every_plan())

    def check(self, plan):
        for one, other in self.apart:
            if plan[one] == plan[other]:
                return [-6, one, other]
        for one, other in self.together:
            if plan[one] != plan[other]:
                return [-7, one, other]
        return [0, *pair(self.clear(plan)), *[self.metres(plan, plough) for plough in range(len(self.ploughs))]]

    def best(self):
        ranked = sorted((self.clear(plan), plan) for plan in self.every_plan() if self.can_be(plan))
        if not ranked:
            return [-6]
        clear, plan = ranked[0]
        return [0, *pair(clear), sum(other == clear for other, _ in ranked), *plan]

    def needs(self, plough, a, b):
        """One speed after another, up to the one by which all the streets would be this plough's in time."""
        for speed in range(1, max(1, sum(self.longs) * b) + 1):
            if self.with_plough(plough, speed).can_be_clear_within(Fraction(a, b)):
                return [speed]
        return [-6]

    def plain(self):
        plan = []
        for long in self.longs:
            times = [Fraction(self.metres(plan, plough) + long, speed) for plough, speed in enumerate(self.ploughs)]
            plan.append(times.index(min(times)))
        return [int(self.can_be(plan)), *pair(self.clear(plan)), *plan]


def pair(fraction):
    return [fraction.numerator, fraction.denominator]


def some_numbers(seed):
    """Numbers without an order to be seen, the same ones each time."""
    state = seed
    while True:
        state = (state * 1103515245 + 12345) % 2147483648
        yield state >> 12


def some_services(seed, how_many, most_streets, most_metres, most_speed):
    numbers = some_numbers(seed)

    def below(bound):
        return next(numbers) % bound

    for _ in range(how_many):
        ploughs = [1 + below(most_speed) for _ in range(1 + below(3))]
        longs = [1 + below(most_metres) for _ in range(below(most_streets + 1))]
        pairs = [(one, other) if below(2) else (other, one) for one in range(len(longs)) for other in range(one)]
        # About three services in four have a few pairs, so that both plans that can be and such that can't are met.
        apart = [two for two in pairs if below(6) == 0 and below(4)]
        together = [two for two in pairs if below(8) == 0 and below(4)]
        yield Told(ploughs, longs, apart[::-1] if below(2) else apart, together[::-1] if below(2) else together)
