"""Pictures sampled at other places: rotation and displacement."""


def sampled_picture(picture, width, height, places):
    """The picture whose pixels, row by row, are samples at the places, which are in 1/256 of a pixel."""
    planes = [[], [], [], []]
    for x, y in places:
        left = x // 256 % width
        right = (left + 1) % width
        upper = y // 256 % height * width
        lower = (y // 256 + 1) % height * width
        u = x % 256
        v = y % 256
        for plane, samples in zip(picture, planes):
            above = plane[upper + left] * (256 - u) + plane[upper + right] * u
            below = plane[lower + left] * (256 - u) + plane[lower + right] * u
            samples.append((above * (256 - v) + below * v) // 65536)
    return planes


def turned_places(width, height, c, s):
    """The places that the pixels of a turned picture are sampled at."""
    places = []
    for y in range(height):
        v = y - height // 2
        for x in range(width):
            u = x - width // 2
            places.append(((u * c - v * s) // 64 + 128 * width, (u * s + v * c) // 64 + 128 * height))
    return places


def bent_places(width, height, strength, across, down):
    """The places that the pixels are sampled at when the planes across and down displace them."""
    places = []
    for y in range(height):
        for x in range(width):
            a = across[y * width + x]
            b = down[y * width + x]
            places.append((256 * x + (a - 32768) * strength // 32768, 256 * y + (b - 32768) * strength // 32768))
    return places
