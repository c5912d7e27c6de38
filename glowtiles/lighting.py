"""Light that falls on a picture whose channel 0 is taken for heights."""

from glowtiles.rounding import clamped


def lit_plane(heights, width, height, lx, ly, strength):
    """How bright each pixel is: a level one is 32768, a slope more or less."""
    lights = []
    for y in range(height):
        here = y * width
        above = (y - 1) % height * width
        below = (y + 1) % height * width
        for x in range(width):
            dx = heights[here + (x + 1) % width] - heights[here + (x - 1) % width]
            dy = heights[below + x] - heights[above + x]
            lights.append(clamped(32768 + (dx * lx + dy * ly) * strength // 65536))
    return lights


def lit_picture(picture, width, height, lx, ly, strength):
    """The picture made grey by the light; the alpha channel stays."""
    lights = lit_plane(picture[0], width, height, lx, ly, strength)
    return [lights, list(lights), list(lights), picture[3]]
