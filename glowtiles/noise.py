"""Noise that is repeated without seams."""


def lattice_value(seed, layer, column, row):
    """The pseudo-random value from 0 to 65535 of one point of a layer's lattice."""
    first = (2654435761 * seed + 374761393 * column + 668265263 * row + 2246822519 * layer) % 2 ** 32
    second = ((first ^ (first // 2 ** 15)) * 2246822519) % 2 ** 32
    return (((second ^ (second // 2 ** 13)) * 3266489917) % 2 ** 32) // 65536


def lattice_rows(seed, layer, columns, rows):
    """The values of all points of a layer's lattice, row by row."""
    lattice = []
    for row in range(rows):
        lattice.append([lattice_value(seed, layer, column, row) for column in range(columns)])
    return lattice


def eased(part):
    """A part of 65536, moved along a curve that begins and ends level."""
    return ((part * part // 65536) * (196608 - 2 * part)) // 65536


def between(start, end, part):
    """The value that lies the part (of 65536) of the way from start to end."""
    return (start * (65536 - part) + end * part) // 65536


def layer_plane(width, height, seed, layer, spacing):
    """One layer of noise, whose lattice has a point every spacing pixels."""
    columns = width // spacing
    rows = height // spacing
    lattice = lattice_rows(seed, layer, columns, rows)
    parts = [eased(step * 65536 // spacing) for step in range(spacing)]
    plane = []
    for y in range(height):
        upper = lattice[y // spacing]
        lower = lattice[(y // spacing + 1) % rows]
        down = parts[y % spacing]
        for x in range(width):
            left = x // spacing
            right = (left + 1) % columns
            across = parts[x % spacing]
            above = between(upper[left], upper[right], across)
            below = between(lower[left], lower[right], across)
            plane.append(between(above, below, down))
    return plane


def noise_picture(width, height, seed, cell, layers, fall):
    """A grey picture of noise without transparency."""
    totals = [0] * (width * height)
    weight = 65535
    # A layer beyond cell would have a lattice finer than the pixels.
    for layer in range(min(layers, cell + 1)):
        plane = layer_plane(width, height, seed, layer, 1 << (cell - layer))
        totals = [total + value * weight // 65536 for total, value in zip(totals, plane)]
        weight = weight * fall // 65536
    grey = [min(total, 65535) for total in totals]
    return [grey, list(grey), list(grey), [65535] * (width * height)]
