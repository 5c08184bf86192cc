"""Levels: what a curve comes to at a level, and what a dimmer gives."""

FULL_LEVEL = 100
SWITCH_LEVEL = 50
FULL_OUTPUT = 255


# Adding a half before rounding down is what makes the greater of two as near win.
def nearest(dividend, divisor):
    return (2 * dividend + divisor) // (2 * divisor)


def curve_at(curve, level):
    if curve == "linear":
        return nearest(FULL_OUTPUT * level, 100)
    if curve == "square":
        return nearest(FULL_OUTPUT * level * level, 10000)
    if curve == "soft":
        return nearest(FULL_OUTPUT * level * level * (300 - 2 * level), 1000000)
    return FULL_OUTPUT if level >= SWITCH_LEVEL else 0


def given_by(dimmer, level):
    return curve_at(dimmer.curve, level) * dimmer.limit // 100


def least_level(dimmer, much):
    for level in range(FULL_LEVEL + 1):
        if given_by(dimmer, level) >= much:
            return level
    return None
