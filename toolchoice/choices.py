"""What is chosen by the ranking, at which places and for which targets."""

from toolchoice.needs import meets


def take_free(stock, toolchain, taken):
    """Take for a toolchain all that it fits and that is not taken; whether there was any such."""
    before = len(taken)
    targets = [target for target in range(len(stock.platforms)) if meets(stock, target, toolchain.second)]
    for place in stock.places:
        if meets(stock, place, toolchain.first):
            for target in targets:
                taken[(toolchain.kind, place, target)] = True
    return len(taken) > before


def idle_toolchains(stock, kinds):
    """The toolchains of the ranking that have one of these kinds and are chosen nowhere."""
    idle = []
    # Walked in the ranking's order, a toolchain is chosen just for what none ahead of it has taken.
    taken = {}
    for number in stock.ranking:
        toolchain = stock.toolchains[number]
        if toolchain.kind in kinds and not take_free(stock, toolchain, taken):
            idle.append(number)
    return idle
