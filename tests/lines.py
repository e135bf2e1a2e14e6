"""How the tests write a line, and read what is answered to it."""

from snowploughs.service import answers

MOST = 4294967295


def begins(*ploughs):
    return [0, len(ploughs), *ploughs]


def street(long):
    return [1, long]


def streets(*longs):
    """Several calls, one for each street."""
    return [street(long) for long in longs]


def apart(one, other):
    return [2, one, other]


def together(one, other):
    return [3, one, other]


def check(*plan):
    return [4, len(plan), *plan]


def best():
    return [5]


def needs(plough, a, b):
    return [6, plough, a, b]


def plain():
    return [7]


def line(*calls):
    return [number for call in calls for number in call]


def split(told):
    """The answers one by one, each as a list; the counts must fit."""
    parts = []
    at = 0
    while at < len(told):
        end = at + 1 + told[at]
        if told[at] < 1 or end > len(told):
            raise AssertionError(f"not a row of answers: {told!r}")
        parts.append(told[at + 1:end])
        at = end
    return parts


def ask_whole(*calls):
    """The answers, each as a list."""
    parts = split(answers(line(*calls)))
    if len(parts) != len(calls):
        raise AssertionError(f"not an answer for each call: {parts!r}")
    return parts


def ask_last(*calls):
    """The whole answer to the last of these calls."""
    return ask_whole(*calls)[-1]


def ask(*calls):
    """The first numbers of the answers; none of these calls answers more than one."""
    parts = ask_whole(*calls)
    if any(len(part) != 1 for part in parts):
        raise AssertionError(f"not one number for each call: {parts!r}")
    return [part[0] for part in parts]
