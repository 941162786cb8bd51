"""What the calls of one line work on: settings, platforms, toolchains and the two orders."""


class Setting:
    """How many values it has, and its default, -1 if it has none."""

    def __init__(self, count, default):
        self.count = count
        self.default = default


class Toolchain:
    """Its kind, what it needs of the place of work, and what it needs of the target."""

    def __init__(self, kind, first, second):
        self.kind = kind
        self.first = first
        self.second = second


class Stock:
    """All that a line of calls has built so far."""

    def __init__(self):
        self.settings = []
        # A platform is a dict from settings to values in which its parent's are taken over already:
        # a platform never changes, so no walk up the parents is needed later.
        self.platforms = []
        self.toolchains = []
        self.ranking = []
        self.places = []
