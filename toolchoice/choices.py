"""What is chosen by the ranking, at which places and for which targets, and which places are served."""

from toolchoice.needs import meets

# Never a kind and never a toolchain: what is told where a place lacks no kind, or where none is chosen.
NO_KIND = -1
NO_TOOLCHAIN = -1


def fitting_ends(stock, toolchain, places, targets):
    """Those pairs of one of the places and one of the targets that a toolchain fits."""
    fitting_targets = [target for target in targets if meets(stock, target, toolchain.second)]
    ends = []
    for place in places:
        if meets(stock, place, toolchain.first):
            ends.extend([(place, target) for target in fitting_targets])
    return ends


def chosen_toolchains(stock, kinds, places, targets):
    """A dict from a kind, a place and a target to the toolchain that is chosen for them, where there is one."""
    chosen = {}
    for number in stock.ranking:
        toolchain = stock.toolchains[number]
        if toolchain.kind in kinds:
            for place, target in fitting_ends(stock, toolchain, places, targets):
                # The ranking is walked from its first one on, so whichever came first stays.
                chosen.setdefault((toolchain.kind, place, target), number)
    return chosen


def chosen_for(chosen, kinds, place, target):
    """For each kind the toolchain that is chosen, or NO_TOOLCHAIN."""
    return [chosen.get((kind, place, target), NO_TOOLCHAIN) for kind in kinds]


def lacking_kind(chosen, kinds, place, target):
    """The first of the kinds for which none is chosen, or NO_KIND: then the place is served."""
    for kind in kinds:
        if (kind, place, target) not in chosen:
            return kind
    return NO_KIND


def served_place(stock, chosen, kinds, target):
    """The first place that is served, or None."""
    for place in stock.places:
        if lacking_kind(chosen, kinds, place, target) == NO_KIND:
            return place
    return None


def chosen_anywhere(stock, kinds):
    """What is chosen for these kinds at all places and for all platforms as targets."""
    return chosen_toolchains(stock, kinds, stock.places, list(range(len(stock.platforms))))


def served_targets(stock, kinds):
    """The platforms, in order of size, that are targets for which some place is served."""
    chosen = chosen_anywhere(stock, kinds)
    platforms = len(stock.platforms)
    return [target for target in range(platforms) if served_place(stock, chosen, kinds, target) is not None]


def idle_toolchains(stock, kinds):
    """The toolchains of the ranking that have one of these kinds and are chosen nowhere."""
    chosen = chosen_anywhere(stock, kinds)
    busy = {}
    for number in chosen.values():
        busy[number] = True
    ranked = [number for number in stock.ranking if stock.toolchains[number].kind in kinds]
    return [number for number in ranked if number not in busy]
