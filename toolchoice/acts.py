"""The calls. Each one is handed the stock, its whole numbers and its rows, and gives back what it answers."""

from toolchoice.choices import (
    chosen_for, chosen_toolchains, idle_toolchains, lacking_kind, served_place, served_targets,
)
from toolchoice.looks import (
    look_kind, look_kinds, look_own, look_pairs, look_parent, look_platform, look_platforms, look_room,
    look_setting, look_toolchain, look_toolchains, look_values,
)
from toolchoice.needs import NO_VALUE, need_of, pairs_of, same_values, unmet_setting, value_of
from toolchoice.refusals import NONE
from toolchoice.stock import Setting, Toolchain

MOST_SETTINGS = 16
MOST_PLATFORMS = 16
MOST_TOOLCHAINS = 32


def add_setting(stock, numbers, rows):
    count = numbers[0]
    default = numbers[1]
    refused = look_values(count, default) or look_room(stock.settings, MOST_SETTINGS)
    if refused:
        return [refused]
    stock.settings.append(Setting(count, default))
    return [len(stock.settings) - 1]


def add_platform(stock, numbers, rows):
    parent = numbers[0]
    own = rows[0]
    refused = look_parent(stock, parent) or look_own(stock, own) or look_room(stock.platforms, MOST_PLATFORMS)
    if refused:
        return [refused]
    known = {} if parent == -1 else dict(stock.platforms[parent])
    known.update(pairs_of(own))
    stock.platforms.append(known)
    return [len(stock.platforms) - 1]


def add_toolchain(stock, numbers, rows):
    kind = numbers[0]
    refused = look_kind(kind) or look_pairs(stock, rows[0]) or look_pairs(stock, rows[1])
    refused = refused or look_room(stock.toolchains, MOST_TOOLCHAINS)
    if refused:
        return [refused]
    stock.toolchains.append(Toolchain(kind, need_of(rows[0]), need_of(rows[1])))
    return [len(stock.toolchains) - 1]


def set_ranking(stock, numbers, rows):
    refused = look_toolchains(stock, rows[0])
    if refused:
        return [refused]
    stock.ranking = rows[0]
    return [0]


def set_places(stock, numbers, rows):
    refused = look_platforms(stock, rows[0])
    if refused:
        return [refused]
    stock.places = rows[0]
    return [0]


def tell_value(stock, numbers, rows):
    refused = look_platform(stock, numbers[0]) or look_setting(stock, numbers[1])
    if refused:
        return [refused]
    value = value_of(stock, numbers[0], numbers[1])
    return [0] if value == NO_VALUE else [1, value]


def tell_fit(stock, numbers, rows):
    place = numbers[1]
    target = numbers[2]
    refused = look_toolchain(stock, numbers[0]) or look_platform(stock, place) or look_platform(stock, target)
    if refused:
        return [refused]
    toolchain = stock.toolchains[numbers[0]]
    unmet = unmet_setting(stock, place, toolchain.first)
    if unmet is not None:
        return [1, unmet]
    unmet = unmet_setting(stock, target, toolchain.second)
    if unmet is not None:
        return [2, unmet]
    return [0]


def tell_choice(stock, numbers, rows):
    kind = numbers[0]
    place = numbers[1]
    target = numbers[2]
    refused = look_kind(kind) or look_platform(stock, place) or look_platform(stock, target)
    if refused:
        return [refused]
    chosen = chosen_toolchains(stock, [kind], [place], [target])
    toolchain = chosen.get((kind, place, target))
    return [0] if toolchain is None else [1, toolchain]


def tell_resolve(stock, numbers, rows):
    target = numbers[0]
    kinds = rows[0]
    wishes = rows[1]
    refused = look_platform(stock, target) or look_kinds(kinds) or look_kinds(wishes)
    if refused:
        return [refused]
    chosen = chosen_toolchains(stock, kinds + wishes, stock.places, [target])
    place = served_place(stock, chosen, kinds, target)
    if place is None:
        return [NONE]
    return [place] + chosen_for(chosen, kinds + wishes, place, target)


def tell_why(stock, numbers, rows):
    target = numbers[0]
    kinds = rows[0]
    refused = look_platform(stock, target) or look_kinds(kinds)
    if refused:
        return [refused]
    chosen = chosen_toolchains(stock, kinds, stock.places, [target])
    told = [0]
    for place in stock.places:
        told.extend([place, lacking_kind(chosen, kinds, place, target)])
    return told


def tell_served(stock, numbers, rows):
    refused = look_kinds(rows[0])
    if refused:
        return [refused]
    return [0] + served_targets(stock, rows[0])


def tell_alike(stock, numbers, rows):
    refused = look_platform(stock, numbers[0]) or look_platform(stock, numbers[1])
    if refused:
        return [refused]
    return [1 if same_values(stock, numbers[0], numbers[1]) else 0]


def tell_idle(stock, numbers, rows):
    refused = look_kinds(rows[0])
    if refused:
        return [refused]
    return [0] + idle_toolchains(stock, rows[0])


# By a call's number: how many whole numbers it has, how many rows, and what it does.
CALLS = {
    0: (2, 0, add_setting),
    1: (1, 1, add_platform),
    2: (1, 2, add_toolchain),
    3: (0, 1, set_ranking),
    4: (0, 1, set_places),
    5: (2, 0, tell_value),
    6: (3, 0, tell_fit),
    7: (3, 0, tell_choice),
    8: (1, 2, tell_resolve),
    9: (1, 1, tell_why),
    10: (0, 1, tell_served),
    11: (2, 0, tell_alike),
    12: (0, 1, tell_idle),
}
