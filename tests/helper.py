"""What the tests share: a second, plain writing of the document's formulas, and ways to ask the program.

Most of what is here goes through `answers` alone; `play` and what takes its state look into the program.
"""

from glowtiles.operations import perform
from glowtiles.state import State
from glowtiles.studio import answers

LEAST = -2147483648
MOST = 2147483647

OPEN, FLAT, NOISE, GLOW, BOX, BLUR, TURN, BEND, JOIN = range(1, 10)
LEVELS, COLOUR, LIGHT, COPY, SWAP, DROP, PIXEL, READ_BYTES, READ_WORDS = range(10, 19)

# The calls that push a picture, those that need two, and those that need one.
PUSHING = (FLAT, NOISE, COPY)
TAKING_TWO = (BEND, JOIN, SWAP)
TAKING_ONE = (GLOW, BOX, BLUR, TURN, LEVELS, COLOUR, LIGHT, DROP, PIXEL, READ_BYTES, READ_WORDS)

# For each call with fixed ranges, one tuple (least, most) for each argument that has one.
RANGES = {
    OPEN: ((2, 6), (2, 6)),
    NOISE: ((0, 65535), (0, 6), (1, 7), (0, 65535)),
    GLOW: ((0, 63), (0, 63), (1, 255), (1, 255), (1, 8)),
    BOX: ((0, 63), (0, 63), (0, 64), (0, 64)),
    BLUR: ((0, 15), (0, 15), (1, 3)),
    TURN: ((-65536, 65536), (-65536, 65536)),
    BEND: ((-8192, 8192),),
    JOIN: ((0, 7),),
    LEVELS: ((0, 65535), (0, 65535)),
    LIGHT: ((-256, 256), (-256, 256), (0, 4096)),
}
# A call of each kind that has nothing wrong with it.
GOOD = {
    OPEN: (3, 4),
    FLAT: (1, 20000, 65535, 300),
    NOISE: (77, 2, 3, 40000),
    GLOW: (3, 5, 6, 9, 2, 60000, 100, 3, 65535),
    BOX: (6, 13, 4, 5, 9, 8, 7, 6),
    BLUR: (1, 2, 1),
    TURN: (9000, -12000),
    BEND: (3000,),
    JOIN: (5,),
    LEVELS: (9000, 40000),
    COLOUR: (100, 200, -300, 4, -50, 60, 70, 8, 256, 0, -256, 90),
    LIGHT: (30, -40, 200),
    COPY: (0,),
    SWAP: (),
    DROP: (),
    PIXEL: (1, 2),
    READ_BYTES: (),
    READ_WORDS: (),
}

# The table under "Dithering", a row for each y mod 4.
THRESHOLDS = [[0, 8, 2, 10], [12, 4, 14, 6], [3, 11, 1, 9], [15, 7, 13, 5]]


def flattened(calls):
    """The list that answers takes for calls written as tuples."""
    return [number for call in calls for number in call]


def ask(calls):
    """What `answers` gives for calls written as tuples: one list for each call."""
    handed = flattened(calls)
    assert 1 <= len(calls) <= 60 and len(handed) <= 780, "more than may be handed in"
    given, told, place = answers(handed), [], 0
    while place < len(given):
        told.append(given[place + 1:place + 1 + given[place]])
        place += 1 + given[place]
    assert len(told) == len(calls) and all(told)
    return told


def size(calls):
    """The width and the height of the pictures after the calls."""
    opened = [call[1:] for call, told in zip(calls, ask(calls)) if call[0] == OPEN and told == [0]]
    return 2 ** opened[-1][0], 2 ** opened[-1][1]


def colours(calls, places):
    """The channels of the pixels of the top at the places after the calls, as `answers` tells them."""
    read = []
    room = 60 - len(calls)
    for start in range(0, len(places), room):
        asked = [(PIXEL, x, y) for x, y in places[start:start + room]]
        told = ask(calls + asked)[len(calls):]
        assert all(answer[0] == 0 and len(answer) == 5 for answer in told), told
        read.extend([tuple(answer[1:]) for answer in told])
    return read


def whole(calls):
    """The channels of all pixels of the top after the calls, as rows."""
    w, h = size(calls)
    read = colours(calls, [(x, y) for y in range(h) for x in range(w)])
    return [read[start:start + w] for start in range(0, w * h, w)]


def greys(calls, number=0):
    """One channel of all pixels of the top after the calls, as rows."""
    return [[colour[number] for colour in row] for row in whole(calls)]


def everything(calls):
    """All pixels of all pictures after the calls, the top first, and the code that ends their dropping."""
    pictures = []
    drops = []
    while (last := ask(calls + drops + [(DROP,)])[-1]) not in ([-4], [-7]):
        pictures.append(whole(calls + drops))
        drops.append((DROP,))
    return pictures, last


def painted(rows):
    """The calls that push a picture with these colours as its pixels."""
    first = rows[0][0]
    boxes = [(BOX, x, y, 1, 1, *colour) for y, row in enumerate(rows) for x, colour in enumerate(row)
             if colour != first]
    return [(FLAT, *first)] + boxes


def painted_grey(rows, alpha=65535):
    """The calls that push a picture whose three colour channels have these values."""
    return painted([[(value, value, value, alpha) for value in row] for row in rows])


def first_number(call, count, pixels):
    """The first number that a good call answers where there are so many pictures of so many pixels."""
    if call in PUSHING:
        return count + 1
    if call in (BEND, JOIN, DROP):
        return count - 1
    return {OPEN: 0, PIXEL: 0, READ_BYTES: 4 * pixels, READ_WORDS: pixels}.get(call, count)


def play(calls, state=None):
    """The state after the calls, and the answer of each."""
    state = State() if state is None else state
    given = [perform(state, call[0], list(call[1:])) for call in calls]
    return state, given


def seen(state):
    """All there is to the state, as a copy."""
    if state.pictures is None:
        return state.width, state.height, None
    return state.width, state.height, [[list(plane) for plane in picture] for picture in state.pictures]


def pixel(state, x, y, depth=0):
    """The channels of a pixel of the picture that lies so deep below the top."""
    return [plane[y * state.width + x] for plane in state.pictures[-1 - depth]]


def channel(state, number=0, depth=0):
    """The rows of one channel of the picture that lies so deep below the top."""
    plane = state.pictures[-1 - depth][number]
    return [plane[start:start + state.width] for start in range(0, len(plane), state.width)]


def put_top(state, rows_of_channels):
    """Pushes a picture whose channels are given as rows."""
    state.pictures = state.pictures + [[[v for row in rows for v in row] for rows in rows_of_channels]]


def clamp(value):
    return max(0, min(65535, value))


def nearest(a, b):
    return (2 * a + b) // (2 * b)


class Model:
    """The document's operations, written pixel by pixel: a picture is a dict from (x, y) to its four channels."""

    def __init__(self):
        self.stack = None
        self.w = self.h = 0

    def each(self, function):
        return {(x, y): function(x, y) for y in range(self.h) for x in range(self.w)}

    def at(self, picture, x, y, c):
        return picture[x % self.w, y % self.h][c]

    def call(self, number, *numbers):
        if number != OPEN and self.stack is None:
            return [-7]
        ranges = RANGES.get(number, ())
        if any(not low <= n <= high for n, (low, high) in zip(numbers, ranges)):
            return [-2]
        if not self.allowed(number, numbers):
            return [-2]
        if len(self.stack or []) < (2 if number in TAKING_TWO else 1 if number in TAKING_ONE else 0):
            return [-4]
        if number in PUSHING and len(self.stack) == 8:
            return [-5]
        doing = (self.open, self.flat, self.noise, self.glow, self.box, self.blur, self.turn, self.bend, self.join,
                 self.levels, self.colour, self.light, self.copy, self.swap, self.drop, self.pixel, self.read_bytes,
                 self.read_words)
        told = doing[number - 1](*numbers)
        return told if number in (PIXEL, READ_BYTES, READ_WORDS) else [0 if number == OPEN else len(self.stack)]

    def allowed(self, number, numbers):
        """What the arguments of some calls must keep to besides their fixed ranges."""
        if number == NOISE:
            return 2 ** numbers[1] <= self.w and 2 ** numbers[1] <= self.h
        if number == LEVELS:
            return numbers[0] < numbers[1]
        if number == COPY:
            return 0 <= numbers[0] < len(self.stack)
        if number == PIXEL:
            return 0 <= numbers[0] < self.w and 0 <= numbers[1] < self.h
        return True

    def open(self, a, b):
        self.w, self.h, self.stack = 2 ** a, 2 ** b, []

    def flat(self, *colour):
        self.stack.append(self.each(lambda x, y: list(colour)))

    def noise(self, seed, cell, layers, fall):
        def value(x, y):
            total, weight = 0, 65535
            for o in range(layers):
                if o <= cell:
                    total += self.octave(seed, cell, o, x, y) * weight // 65536
                weight = weight * fall // 65536
            return min(total, 65535)
        self.stack.append(self.each(lambda x, y: [value(x, y)] * 3 + [65535]))

    def octave(self, seed, cell, o, x, y):
        s = 2 ** (cell - o)

        def r(i, j):
            a, b = i % (self.w // s), j % (self.h // s)
            n = (2654435761 * seed + 374761393 * a + 668265263 * b + 2246822519 * o) % 4294967296
            m = ((n ^ (n // 32768)) * 2246822519) % 4294967296
            return (((m ^ (m // 8192)) * 3266489917) % 4294967296) // 65536

        def smooth(t):
            return ((t * t // 65536) * (196608 - 2 * t)) // 65536

        i, j = x // s, y // s
        u, v = smooth((x % s) * 65536 // s), smooth((y % s) * 65536 // s)
        p = (r(i, j) * (65536 - u) + r(i + 1, j) * u) // 65536
        q = (r(i, j + 1) * (65536 - u) + r(i + 1, j + 1) * u) // 65536
        return (p * (65536 - v) + q * v) // 65536

    def glow(self, cx, cy, rx, ry, n, *colour):
        top = self.stack.pop()

        def value(x, y):
            dx = ((x - cx + self.w // 2) % self.w) - self.w // 2
            dy = ((y - cy + self.h // 2) % self.h) - self.h // 2
            t = (256 * dx // rx) ** 2 + (256 * dy // ry) ** 2
            b = 0 if t >= 65536 else 65536 - t
            for again in range(n - 1):
                b = b * (65536 - t) // 65536 if b else 0
            return [min(65535, top[x, y][c] + colour[c] * b // 65536) for c in range(4)]
        self.stack.append(self.each(value))

    def box(self, left, upper, width, height, *colour):
        top = self.stack.pop()
        self.stack.append(self.each(lambda a, b: list(colour) if (a - left) % self.w < width
                                    and (b - upper) % self.h < height else top[a, b]))

    def blur(self, rx, ry, n):
        for again in range(n):
            before = self.stack.pop()
            across = self.each(lambda x, y: [
                sum(self.at(before, x + d, y, c) for d in range(-rx, rx + 1)) // (2 * rx + 1) for c in range(4)])
            self.stack.append(self.each(lambda x, y: [
                sum(self.at(across, x, y + d, c) for d in range(-ry, ry + 1)) // (2 * ry + 1) for c in range(4)]))

    def sample(self, picture, x, y, c):
        i, j, u, v = x // 256, y // 256, x % 256, y % 256
        e = self.at(picture, i, j, c) * (256 - u) + self.at(picture, i + 1, j, c) * u
        f = self.at(picture, i, j + 1, c) * (256 - u) + self.at(picture, i + 1, j + 1, c) * u
        return (e * (256 - v) + f * v) // 65536

    def turn(self, co, si):
        top = self.stack.pop()

        def value(x, y):
            u, v = x - self.w // 2, y - self.h // 2
            left = (u * co - v * si) // 64 + 128 * self.w
            upper = (u * si + v * co) // 64 + 128 * self.h
            return [self.sample(top, left, upper, c) for c in range(4)]
        self.stack.append(self.each(value))

    def bend(self, n):
        top, second = self.stack.pop(), self.stack.pop()

        def value(x, y):
            a, b = top[x, y][:2]
            left = 256 * x + ((a - 32768) * n) // 32768
            upper = 256 * y + ((b - 32768) * n) // 32768
            return [self.sample(second, left, upper, c) for c in range(4)]
        self.stack.append(self.each(value))

    def join(self, mode):
        top, second = self.stack.pop(), self.stack.pop()

        def value(b, t, k):
            return (min(b + t, 65535), max(b - t, 0), nearest(b * t, 65535), max(b, t), min(b, t), (b + t + 1) // 2,
                    nearest(b * (65535 - k) + t * k, 65535), max(b, t) - min(b, t))[mode]
        self.stack.append(self.each(
            lambda x, y: [value(second[x, y][c], top[x, y][c], top[x, y][3]) for c in range(4)]))

    def levels(self, low, high):
        top = self.stack.pop()

        def value(v):
            return 0 if v <= low else 65535 if v >= high else nearest((v - low) * 65535, high - low)
        self.stack.append(self.each(lambda x, y: [value(v) for v in top[x, y][:3]] + [top[x, y][3]]))

    def colour(self, *matrix):
        top = self.stack.pop()

        def value(place, row):
            r, g, b = top[place][:3]
            m0, m1, m2, m3 = matrix[4 * row:4 * row + 4]
            return clamp((m0 * r + m1 * g + m2 * b + 65536 * m3) // 256)
        self.stack.append(self.each(lambda x, y: [value((x, y), row) for row in range(3)] + [top[x, y][3]]))

    def light(self, lx, ly, n):
        top = self.stack.pop()

        def value(x, y):
            dx = self.at(top, x + 1, y, 0) - self.at(top, x - 1, y, 0)
            dy = self.at(top, x, y + 1, 0) - self.at(top, x, y - 1, 0)
            return clamp(32768 + ((dx * lx + dy * ly) * n) // 65536)
        self.stack.append(self.each(lambda x, y: [value(x, y)] * 3 + [top[x, y][3]]))

    def copy(self, k):
        self.stack.append(dict(self.stack[len(self.stack) - 1 - k]))

    def swap(self):
        top, second = self.stack.pop(), self.stack.pop()
        self.stack += [top, second]

    def drop(self):
        self.stack.pop()

    def pixel(self, x, y):
        return [0] + self.stack[-1][x, y]

    def dithered(self, x, y, c, n):
        t = 2 ** n - 1
        v = self.stack[-1][x, y][c]
        q, r = v * t // 65535, ((v * t) % 65535) * 16 // 65535
        return min(t, (16 * q + r + 15 - THRESHOLDS[y % 4][x % 4]) // 16)

    def read_bytes(self):
        read = [self.dithered(x, y, c, 8) for x, y in self.places() for c in range(4)]
        return [4 * self.w * self.h] + read

    def read_words(self):
        read = [2048 * self.dithered(x, y, 0, 5) + 32 * self.dithered(x, y, 1, 6) + self.dithered(x, y, 2, 5)
                for x, y in self.places()]
        return [self.w * self.h] + read

    def places(self):
        return [(x, y) for y in range(self.h) for x in range(self.w)]

    def seen(self):
        """The same as the function seen tells of the program's state."""
        if self.stack is None:
            return self.w, self.h, None
        return self.w, self.h, [[[picture[place][c] for place in self.places()] for c in range(4)]
                                for picture in self.stack]


def check_against_model(test, calls):
    """Plays the calls on the program and on the model, and compares answers and pictures after every call."""
    model, state, expected = Model(), State(), []
    for call in calls:
        told = model.call(*call)
        test.assertEqual(play([call], state)[1], [told], (calls, call))
        test.assertEqual(seen(state), model.seen(), (calls, call))
        expected.extend([len(told)] + told)
    test.assertEqual(answers(flattened(calls)), expected)
