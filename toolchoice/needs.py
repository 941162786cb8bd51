"""Values of platforms, and whether these meet the needs of toolchains."""

# Never a value of a setting, and what a setting without a default has in its place.
NO_VALUE = -1


def pairs_of(row):
    """The pairs of a setting and a value that lie in a row one behind another."""
    return list(zip(row[0::2], row[1::2]))


def need_of(row):
    """A dict from each setting of the pairs to its alternatives, in the order of the settings' first pairs."""
    need = {}
    for setting, value in pairs_of(row):
        need.setdefault(setting, []).append(value)
    return need


def value_of(stock, platform, setting):
    """The value of a platform for a setting, or NO_VALUE."""
    # A default is asked only now, since a setting may be newer than the platform.
    return stock.platforms[platform].get(setting, stock.settings[setting].default)


def same_values(stock, platform, other):
    """Whether two platforms have for each setting the same value, or both none."""
    for setting in range(len(stock.settings)):
        if value_of(stock, platform, setting) != value_of(stock, other, setting):
            return False
    return True


def unmet_setting(stock, platform, need):
    """The first setting of a need that the platform does not meet, or None."""
    for setting, alternatives in need.items():
        # NO_VALUE is never among the alternatives, so a platform without a value does not meet them.
        if value_of(stock, platform, setting) not in alternatives:
            return setting
    return None


def meets(stock, platform, need):
    """Whether a platform meets a need."""
    return unmet_setting(stock, platform, need) is None
