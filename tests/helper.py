"""Calls as lists of numbers, and a line's answers taken apart call by call."""

from toolchoice.desk import answers

LIMIT, SETTING, VALUE, PLATFORM, CHAIN, KIND, TWICE, NONE, FULL = range(-1, -10, -1)
HUGE = 10 ** 18


def setting(count, default=-1):
    return [0, count, default]


def platform(parent=-1, own=()):
    return [1, parent, len(own), *own]


def toolchain(kind, first=(), second=()):
    return [2, kind, len(first), *first, len(second), *second]


def rank(*toolchains):
    return [3, len(toolchains), *toolchains]


def places(*platforms):
    return [4, len(platforms), *platforms]


def value(p, s):
    return [5, p, s]


def fits(t, place, target):
    return [6, t, place, target]


def idle(*kinds):
    return [12, len(kinds), *kinds]


def joined(calls):
    return [number for call in calls for number in call]


def taken_apart(told):
    """The answers of a line, a list for each call."""
    parts = []
    at = 0
    while at < len(told):
        end = at + 1 + told[at]
        if told[at] < 1 or end > len(told):
            raise AssertionError(f"no answer of {told[at]} numbers at {at} in {told}")
        parts.append(told[at + 1:end])
        at = end
    return parts


def tell(*calls):
    """The answer of each of these calls on one new object."""
    parts = taken_apart(answers(joined(calls)))
    if len(parts) != len(calls):
        raise AssertionError(f"{len(calls)} calls, {len(parts)} answers")
    return parts


def last(*calls):
    """The answer of the last one of these calls."""
    return tell(*calls)[-1]
