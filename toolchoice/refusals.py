"""The numbers that a refused call answers."""

# Zero, so that looks can be strung together with `or`: the first refusal is the one that is answered.
ACCEPTED = 0

LIMIT = -1
SETTING = -2
VALUE = -3
PLATFORM = -4
CHAIN = -5
KIND = -6
TWICE = -7
NONE = -8
FULL = -9
