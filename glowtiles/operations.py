"""The operations: each makes its checks in the order in which the document lists its errors, then acts.

An operation takes the state and the numbers of its call, and gives back the numbers of its answer.
"""

from glowtiles.blurring import blurred_picture
from glowtiles.colouring import mixed_picture, stretched_picture
from glowtiles.dithering import picture_bytes, picture_words
from glowtiles.joining import joined_picture
from glowtiles.lighting import lit_picture
from glowtiles.noise import noise_picture
from glowtiles.painting import boxed_picture, covered_places, flat_picture, glowing_picture, squared_distances
from glowtiles.refusals import NoStack, OutOfRange, Refusal, StackFull, TooFewPictures
from glowtiles.sampling import bent_places, sampled_picture, turned_places

OPENING = 1
MOST_PICTURES = 8


def require_ranges(numbers, ranges):
    """Refuses a number outside its range; a colour, which stands last, has no range to keep."""
    for number, limits in zip(numbers, ranges):
        if number < limits[0] or number > limits[1]:
            raise OutOfRange()


def require_pictures(state, needed):
    if len(state.pictures) < needed:
        raise TooFewPictures()


def require_room(state):
    if len(state.pictures) >= MOST_PICTURES:
        raise StackFull()


def put_picture(state, taken, picture):
    """Puts the picture in the place of as many as are taken from the top, and answers the count."""
    state.pictures = state.pictures[:len(state.pictures) - taken] + [picture]
    return [len(state.pictures)]


def open_stack(state, numbers):
    require_ranges(numbers, ((2, 6), (2, 6)))
    state.width = 1 << numbers[0]
    state.height = 1 << numbers[1]
    state.pictures = []
    return [0]


def push_flat(state, numbers):
    require_room(state)
    return put_picture(state, 0, flat_picture(state.width, state.height, numbers))


def push_noise(state, numbers):
    require_ranges(numbers, ((0, 65535), (0, 6), (1, 7), (0, 65535)))
    seed = numbers[0]
    cell = numbers[1]
    layers = numbers[2]
    fall = numbers[3]
    if 1 << cell > min(state.width, state.height):
        raise OutOfRange()
    require_room(state)
    return put_picture(state, 0, noise_picture(state.width, state.height, seed, cell, layers, fall))


def glow_top(state, numbers):
    require_ranges(numbers, ((0, 63), (0, 63), (1, 255), (1, 255), (1, 8)))
    require_pictures(state, 1)
    across = squared_distances(state.width, numbers[0], numbers[2])
    down = squared_distances(state.height, numbers[1], numbers[3])
    return put_picture(state, 1, glowing_picture(state.pictures[-1], across, down, numbers[4], numbers[5:]))


def box_top(state, numbers):
    require_ranges(numbers, ((0, 63), (0, 63), (0, 64), (0, 64)))
    require_pictures(state, 1)
    columns = covered_places(state.width, numbers[0], numbers[2])
    rows = covered_places(state.height, numbers[1], numbers[3])
    return put_picture(state, 1, boxed_picture(state.pictures[-1], columns, rows, numbers[4:]))


def blur_top(state, numbers):
    require_ranges(numbers, ((0, 15), (0, 15), (1, 3)))
    require_pictures(state, 1)
    across = numbers[0]
    down = numbers[1]
    times = numbers[2]
    return put_picture(state, 1, blurred_picture(state.pictures[-1], state.width, state.height, across, down, times))


def turn_top(state, numbers):
    require_ranges(numbers, ((-65536, 65536), (-65536, 65536)))
    require_pictures(state, 1)
    places = turned_places(state.width, state.height, numbers[0], numbers[1])
    return put_picture(state, 1, sampled_picture(state.pictures[-1], state.width, state.height, places))


def bend_second(state, numbers):
    require_ranges(numbers, ((-8192, 8192),))
    require_pictures(state, 2)
    top = state.pictures[-1]
    places = bent_places(state.width, state.height, numbers[0], top[0], top[1])
    return put_picture(state, 2, sampled_picture(state.pictures[-2], state.width, state.height, places))


def join_two(state, numbers):
    require_ranges(numbers, ((0, 7),))
    require_pictures(state, 2)
    return put_picture(state, 2, joined_picture(state.pictures[-2], state.pictures[-1], numbers[0]))


def stretch_top(state, numbers):
    require_ranges(numbers, ((0, 65535), (0, 65535)))
    low = numbers[0]
    high = numbers[1]
    if low >= high:
        raise OutOfRange()
    require_pictures(state, 1)
    return put_picture(state, 1, stretched_picture(state.pictures[-1], low, high))


def mix_top(state, numbers):
    require_pictures(state, 1)
    return put_picture(state, 1, mixed_picture(state.pictures[-1], numbers))


def light_top(state, numbers):
    require_ranges(numbers, ((-256, 256), (-256, 256), (0, 4096)))
    require_pictures(state, 1)
    lx = numbers[0]
    ly = numbers[1]
    strength = numbers[2]
    return put_picture(state, 1, lit_picture(state.pictures[-1], state.width, state.height, lx, ly, strength))


def push_copy(state, numbers):
    require_ranges(numbers, ((0, len(state.pictures) - 1),))
    require_room(state)
    # The very same picture may stand there twice, since none is changed once it is made.
    return put_picture(state, 0, state.pictures[-1 - numbers[0]])


def swap_two(state, numbers):
    require_pictures(state, 2)
    state.pictures = state.pictures[:-2] + [state.pictures[-1], state.pictures[-2]]
    return [len(state.pictures)]


def drop_top(state, numbers):
    require_pictures(state, 1)
    state.pictures = state.pictures[:-1]
    return [len(state.pictures)]


def read_pixel(state, numbers):
    require_ranges(numbers, ((0, state.width - 1), (0, state.height - 1)))
    require_pictures(state, 1)
    place = numbers[1] * state.width + numbers[0]
    return [0] + [plane[place] for plane in state.pictures[-1]]


def read_bytes(state, numbers):
    require_pictures(state, 1)
    channels = picture_bytes(state.pictures[-1], state.width)
    return [len(channels)] + channels


def read_words(state, numbers):
    require_pictures(state, 1)
    words = picture_words(state.pictures[-1], state.width)
    return [len(words)] + words


# For each call how many numbers follow its own, and what is done.
OPERATIONS = {
    1: (2, open_stack),
    2: (4, push_flat),
    3: (4, push_noise),
    4: (9, glow_top),
    5: (8, box_top),
    6: (3, blur_top),
    7: (2, turn_top),
    8: (1, bend_second),
    9: (1, join_two),
    10: (2, stretch_top),
    11: (12, mix_top),
    12: (3, light_top),
    13: (1, push_copy),
    14: (0, swap_two),
    15: (0, drop_top),
    16: (2, read_pixel),
    17: (0, read_bytes),
    18: (0, read_words),
}


def argument_count(call):
    """How many numbers follow the number of the call."""
    return OPERATIONS[call][0]


def perform(state, call, numbers):
    """Carries out one call; a refused one leaves the state as it was and is answered by its code."""
    try:
        if call != OPENING and state.pictures is None:
            raise NoStack()
        return OPERATIONS[call][1](state, numbers)
    except Refusal as refusal:
        return [refusal.code]
