"""Two pictures joined into one.

The functions for the modes take a value of the second picture, that of the top, and the top's alpha value.
"""

from glowtiles.rounding import rounded_quotient


def added(below, above, alpha):
    return min(below + above, 65535)


def subtracted(below, above, alpha):
    return max(below - above, 0)


def multiplied(below, above, alpha):
    return rounded_quotient(below * above, 65535)


def greater(below, above, alpha):
    return max(below, above)


def smaller(below, above, alpha):
    return min(below, above)


def averaged(below, above, alpha):
    return (below + above + 1) // 2


def overlaid(below, above, alpha):
    return rounded_quotient(below * (65535 - alpha) + above * alpha, 65535)


def distance(below, above, alpha):
    return abs(below - above)


MODES = (added, subtracted, multiplied, greater, smaller, averaged, overlaid, distance)


def joined_picture(second, top, mode):
    """The picture that the mode makes of the second picture and the top."""
    planes = []
    for low, high in zip(second, top):
        planes.append([MODES[mode](below, above, alpha) for below, above, alpha in zip(low, high, top[3])])
    return planes
