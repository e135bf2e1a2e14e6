"""A service with its ploughs and streets, and the calls of one line on it."""

BEGINS = 0
STREET = 1
APART = 2
TOGETHER = 3

MOST_PLOUGHS = 3
MOST_METRES = 1000
MOST_STREETS = 6

DONE = 0
WRONG_NUMBER = -1
NOT_THERE = -2
SAME_OR_TOLD = -4
FULL = -5


class CallNotBuilt(Exception):
    """A call's number that this program has no answer for."""


class Service:
    """What has been told of the ploughs and streets so far."""

    def __init__(self):
        self.ploughs = [1]
        self.streets = []
        self.apart_pairs = []
        self.together_pairs = []

    def begin(self, ploughs):
        if not 1 <= len(ploughs) <= MOST_PLOUGHS:
            return [WRONG_NUMBER]
        if not all([is_metres(metres) for metres in ploughs]):
            return [WRONG_NUMBER]
        self.ploughs = list(ploughs)
        # What was told of streets goes with them: their numbers are given out anew.
        self.streets = []
        self.apart_pairs = []
        self.together_pairs = []
        return [DONE]

    def add_street(self, long):
        if not is_metres(long):
            return [WRONG_NUMBER]
        if len(self.streets) == MOST_STREETS:
            return [FULL]
        self.streets.append(long)
        return [len(self.streets) - 1]

    def tell_apart(self, street, other):
        return self.tell_pair(self.apart_pairs, street, other)

    def tell_together(self, street, other):
        return self.tell_pair(self.together_pairs, street, other)

    def tell_pair(self, pairs, street, other):
        if street >= len(self.streets) or other >= len(self.streets):
            return [NOT_THERE]
        if street == other or (street, other) in pairs or (other, street) in pairs:
            return [SAME_OR_TOLD]
        # Kept as it was told and behind the earlier ones, since check is to name the pair told first, as told.
        pairs.append((street, other))
        return [DONE]


def is_metres(number):
    return 1 <= number <= MOST_METRES


def call_length(calls, at):
    """How many numbers of the list the call that begins at this place takes."""
    number = calls[at]
    if number == BEGINS:
        return 2 + calls[at + 1]
    if number == STREET:
        return 2
    if number == APART or number == TOGETHER:
        return 3
    raise CallNotBuilt(f"{number}")


def answer_call(service, call):
    number = call[0]
    if number == BEGINS:
        return service.begin(call[2:])
    if number == STREET:
        return service.add_street(call[1])
    if number == APART:
        return service.tell_apart(call[1], call[2])
    return service.tell_together(call[1], call[2])


def answers(calls):
    """For each call in order: how many numbers are answered, then these."""
    service = Service()
    told = []
    at = 0
    while at < len(calls):
        end = at + call_length(calls, at)
        answer = answer_call(service, calls[at:end])
        told.append(len(answer))
        told.extend(answer)
        at = end
    return told
