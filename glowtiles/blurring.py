"""Blurring."""


def blurred_row(row, radius):
    """Each value replaced by the mean of those up to the radius away, round the ends."""
    size = len(row)
    # The window moves along the row, so that a wide radius costs no more than a narrow one.
    window = sum([row[place % size] for place in range(-radius, radius + 1)])
    means = []
    for place in range(size):
        means.append(window // (2 * radius + 1))
        window += row[(place + radius + 1) % size] - row[(place - radius) % size]
    return means


def blurred_rows(plane, width, radius):
    """The plane with each of its rows blurred."""
    blurred = []
    for start in range(0, len(plane), width):
        blurred.extend(blurred_row(plane[start:start + width], radius))
    return blurred


def transposed(plane, width):
    """The plane with its columns as rows."""
    turned = []
    for column in range(width):
        turned.extend(plane[column::width])
    return turned


def blurred_plane(plane, width, height, across, down):
    """The plane blurred once horizontally, then once vertically."""
    passed = blurred_rows(plane, width, across)
    columns = blurred_rows(transposed(passed, width), height, down)
    return transposed(columns, height)


def blurred_picture(picture, width, height, across, down, times):
    """The picture with each channel blurred as many times as told."""
    planes = picture
    for step in range(times):
        planes = [blurred_plane(plane, width, height, across, down) for plane in planes]
    return planes
