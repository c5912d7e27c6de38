"""Flat pictures, glows and boxes."""


def flat_picture(width, height, colour):
    """A picture in which all pixels have the colour."""
    return [[value] * (width * height) for value in colour]


def squared_distances(size, centre, radius):
    """For each place of an axis the square of its distance from the centre; at the radius it is 65536."""
    half = size // 2
    squares = []
    for place in range(size):
        distance = (place - centre + half) % size - half
        scaled = 256 * distance // radius
        squares.append(scaled * scaled)
    return squares


def glow_strength(squared, power):
    """How strong a glow is, from 0 to 65536, at a squared distance from its centre."""
    if squared >= 65536:
        return 0
    fading = 65536 - squared
    strength = fading
    for step in range(power - 1):
        strength = strength * fading // 65536
    return strength


def glowing_picture(picture, across, down, power, colour):
    """The picture with a glow added; across and down are the squared distances of its columns and rows."""
    strengths = []
    for vertical in down:
        strengths.extend([glow_strength(horizontal + vertical, power) for horizontal in across])
    planes = []
    for plane, light in zip(picture, colour):
        planes.append([min(value + light * strength // 65536, 65535) for value, strength in zip(plane, strengths)])
    return planes


def covered_places(size, start, length):
    """For each place of an axis whether a box that begins at start covers it."""
    return [(place - start) % size < length for place in range(size)]


def boxed_picture(picture, columns, rows, colour):
    """The picture with the colour wherever both the column and the row are covered."""
    covered = []
    for row in rows:
        covered.extend([row and column for column in columns])
    planes = []
    for plane, paint in zip(picture, colour):
        planes.append([paint if inside else value for value, inside in zip(plane, covered)])
    return planes
