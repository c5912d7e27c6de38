"""Pictures read in few bits for each channel, with ordered dithering."""

# What is taken away ahead of rounding down, for y mod 4 and then x mod 4: each number from 0 to 15 once, so that
# of 16 pixels with one value as many are rounded up as keeps their mean.
STEPS = ((0, 8, 2, 10), (12, 4, 14, 6), (3, 11, 1, 9), (15, 7, 13, 5))


def dithered(value, bits, step):
    """The value of a channel in so many bits, where the step is that of its pixel."""
    most = (1 << bits) - 1
    quotient = value * most // 65535
    rest = value * most % 65535 * 16 // 65535
    return min((16 * quotient + rest + 15 - step) // 16, most)


def dithered_plane(plane, width, bits):
    """The values of a channel in so many bits, row by row."""
    reduced = []
    for start in range(0, len(plane), width):
        steps = STEPS[start // width % 4]
        row = plane[start:start + width]
        reduced.extend([dithered(value, bits, steps[x % 4]) for x, value in enumerate(row)])
    return reduced


def picture_bytes(picture, width):
    """For each pixel its four channels in 8 bits."""
    planes = [dithered_plane(plane, width, 8) for plane in picture]
    channels = []
    for red, green, blue, alpha in zip(planes[0], planes[1], planes[2], planes[3]):
        channels.extend([red, green, blue, alpha])
    return channels


def picture_words(picture, width):
    """For each pixel one number of 16 bits: 5 of channel 0, 6 of channel 1, 5 of channel 2."""
    reds = dithered_plane(picture[0], width, 5)
    greens = dithered_plane(picture[1], width, 6)
    blues = dithered_plane(picture[2], width, 5)
    return [2048 * red + 32 * green + blue for red, green, blue in zip(reds, greens, blues)]
