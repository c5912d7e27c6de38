"""The colour channels changed, each pixel by itself. The alpha channel stays."""

from glowtiles.rounding import clamped, rounded_quotient


def stretched(value, low, high):
    """The value on the scale on which low is 0 and high is 65535."""
    if value <= low:
        return 0
    if value >= high:
        return 65535
    return rounded_quotient((value - low) * 65535, high - low)


def stretched_picture(picture, low, high):
    """The picture with its colour channels stretched so that low becomes 0 and high 65535."""
    planes = []
    for plane in picture[:3]:
        planes.append([stretched(value, low, high) for value in plane])
    return planes + [picture[3]]


def mixed_plane(picture, row):
    """The channel that the four coefficients of a matrix's row make of the three colour channels."""
    plane = []
    for red, green, blue in zip(picture[0], picture[1], picture[2]):
        mixture = row[0] * red + row[1] * green + row[2] * blue + 65536 * row[3]
        plane.append(clamped(mixture // 256))
    return plane


def mixed_picture(picture, matrix):
    """The picture with its colour channels mixed; the matrix is twelve coefficients, row by row."""
    planes = [mixed_plane(picture, matrix[start:start + 4]) for start in range(0, 12, 4)]
    return planes + [picture[3]]
