"""How what is handed to a call is looked at: each look answers ACCEPTED or a refusal."""

from toolchoice.needs import NO_VALUE, pairs_of
from toolchoice.refusals import ACCEPTED, CHAIN, FULL, KIND, LIMIT, PLATFORM, SETTING, TWICE, VALUE

MOST_VALUES = 16
MOST_KINDS = 32
LONGEST_ROW = 64


def look_below(number, bound, refusal):
    """The refusal, unless the number is from 0 to bound - 1."""
    return ACCEPTED if 0 <= number < bound else refusal


def look_setting(stock, setting):
    return look_below(setting, len(stock.settings), SETTING)


def look_platform(stock, platform):
    return look_below(platform, len(stock.platforms), PLATFORM)


def look_toolchain(stock, toolchain):
    return look_below(toolchain, len(stock.toolchains), CHAIN)


def look_kind(kind):
    return look_below(kind, MOST_KINDS, KIND)


def look_once(numbers):
    """TWICE, if a number stands in the list twice."""
    return ACCEPTED if len(set(numbers)) == len(numbers) else TWICE


def look_row(row, bound, refusal):
    """A list of numbers from 0 to bound - 1, none of them twice."""
    if len(row) > LONGEST_ROW:
        return LIMIT
    for number in row:
        if look_below(number, bound, refusal):
            return refusal
    return look_once(row)


def look_platforms(stock, row):
    return look_row(row, len(stock.platforms), PLATFORM)


def look_toolchains(stock, row):
    return look_row(row, len(stock.toolchains), CHAIN)


def look_kinds(row):
    return look_row(row, MOST_KINDS, KIND)


def look_pairs(stock, row):
    """A list of pairs of a setting and one of its values."""
    if len(row) > LONGEST_ROW or len(row) % 2 == 1:
        return LIMIT
    for setting, value in pairs_of(row):
        refused = look_setting(stock, setting) or look_below(value, stock.settings[setting].count, VALUE)
        if refused:
            return refused
    return ACCEPTED


def look_own(stock, row):
    """A platform's own pairs: of each setting one at most."""
    return look_pairs(stock, row) or look_once([setting for setting, value in pairs_of(row)])


def look_parent(stock, parent):
    """A platform, or -1 for none."""
    return ACCEPTED if parent == -1 else look_platform(stock, parent)


def look_values(count, default):
    """How many values a new setting has, and which of them is its default."""
    if 1 <= count <= MOST_VALUES and (default == NO_VALUE or 0 <= default < count):
        return ACCEPTED
    return LIMIT


def look_room(held, most):
    """FULL, if no other one may be added to those that are held."""
    return ACCEPTED if len(held) < most else FULL
