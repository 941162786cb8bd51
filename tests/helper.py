"""Calls as lists of numbers, and a line's answers taken apart call by call."""

from toolchoice.desk import answers

LIMIT, SETTING, VALUE, PLATFORM, CHAIN, KIND, TWICE, NONE, FULL = range(-1, -10, -1)
HUGE = 10 ** 18


def setting(count, default=-1):
    return [0, count, default]


def platform(parent=-1, own=()):
    return [1, parent, len(own), *own]


def toolchain(kind, first=(), second=()):
    return [2, kind, len(first), *first, len(second), *second]


def rank(*toolchains):
    return [3, len(toolchains), *toolchains]


def places(*platforms):
    return [4, len(platforms), *platforms]


def value(p, s):
    return [5, p, s]


def fits(t, place, target):
    return [6, t, place, target]


def choose(kind, place, target):
    return [7, kind, place, target]


def resolve(target, kinds=(), wishes=()):
    return [8, target, len(kinds), *kinds, len(wishes), *wishes]


def why(target, kinds=()):
    return [9, target, len(kinds), *kinds]


def served(*kinds):
    return [10, len(kinds), *kinds]


def alike(p, q):
    return [11, p, q]


def idle(*kinds):
    return [12, len(kinds), *kinds]


# Platform p has the value p for setting 0.
BASE = (setting(3), platform(-1, [0, 0]), platform(-1, [0, 1]), platform(-1, [0, 2]))
# At place 0 there is kind 4 alone, at place 1 there are 4 and 5, at place 2 there are 4, 5 and 6.
STEPS = (*BASE, toolchain(4), toolchain(5, [0, 1, 0, 2]), toolchain(6, [0, 2]), rank(0, 1, 2))


def joined(calls):
    return [number for call in calls for number in call]


def taken_apart(told):
    """The answers of a line, a list for each call."""
    parts = []
    at = 0
    while at < len(told):
        end = at + 1 + told[at]
        if told[at] < 1 or end > len(told):
            raise AssertionError(f"no answer of {told[at]} numbers at {at} in {told}")
        parts.append(told[at + 1:end])
        at = end
    return parts


def tell(*calls):
    """The answer of each of these calls on one new object."""
    parts = taken_apart(answers(joined(calls)))
    if len(parts) != len(calls):
        raise AssertionError(f"{len(calls)} calls, {len(parts)} answers")
    return parts


def last(*calls):
    """The answer of the last one of these calls."""
    return tell(*calls)[-1]
