"""The document's requirements 1 to 8, each through `answers` alone."""

import random
import unittest

from helper import (BEND, BLUR, BOX, COLOUR, COPY, FLAT, GLOW, JOIN, LEVELS, LIGHT, NOISE, OPEN, READ_BYTES,
                    READ_WORDS, SWAP, TURN, ask, colours, everything, greys, painted, whole)

VALUES = (0, 1, 2, 255, 32767, 32768, 40000, 65534, 65535)
SIZES = ((2, 2), (2, 4), (4, 3), (3, 3))
# Two unlike pictures to begin with; the second has other values in each channel.
NOISY = (NOISE, 8, 1, 2, 50000)
MIXED = [(NOISE, 70, 1, 2, 50000), (COLOUR, 256, 0, 0, 0, -256, 0, 0, 256, 0, 512, -256, 9),
         (BOX, 1, 1, 2, 3, 65535, 0, 40000, 300), (TURN, 14000, 9000)]


class Requirement1(unittest.TestCase):
    """All channels are from 0 to 65535, and there are never more than 8 pictures."""

    def check(self, calls):
        for call, told in zip(calls, ask(calls)):
            if call[0] not in (READ_BYTES, READ_WORDS):
                self.assertEqual(len(told), 1)
                self.assertLessEqual(told[0], 8)
        pictures = everything(calls)[0]
        self.assertLessEqual(len(pictures), 8)
        for picture in pictures:
            for row in picture:
                for colour in row:
                    self.assertEqual(len(colour), 4)
                    self.assertTrue(0 <= min(colour) and max(colour) <= 65535, (calls, colour))

    def test_where_a_call_goes_to_the_ends(self):
        ends = [(FLAT, 65535, 65535, 65535, 65535), (BOX, 0, 0, 2, 3, 0, 0, 0, 0)]
        for call in ((GLOW, 0, 0, 255, 255, 1, 65535, 65535, 65535, 65535), (BLUR, 15, 15, 3), (TURN, 65536, -65536),
                     (LEVELS, 1, 2), (LEVELS, 65533, 65534), (COLOUR, *[32767] * 12), (COLOUR, *[-32768] * 12),
                     (COLOUR, 32767, -32768, 32767, -32768, 0, 0, 0, 256, 257, 0, 0, 0), (LIGHT, 256, 256, 4096),
                     (LIGHT, -256, -256, 4096)):
            for size in SIZES:
                self.check([(OPEN, *size)] + ends + [call])
        for mode in range(8):
            self.check([(OPEN, 2, 2)] + ends + [(FLAT, 65535, 0, 1, 65535), (JOIN, mode)])
            self.check([(OPEN, 2, 2), (FLAT, 0, 1, 65535, 0)] + ends + [(JOIN, mode)])
        for n in (-8192, 8192):
            self.check([(OPEN, 2, 3)] + ends + ends + [(BEND, n)])

    def test_with_many_pushed(self):
        for push in ((FLAT, 1, 2, 3, 4), (NOISE, 1, 1, 1, 1), (COPY, 0)):
            calls = [(OPEN, 2, 2), (FLAT, 65535, 0, 65535, 0)] + [push] * 12
            self.check(calls)
            self.assertEqual(ask(calls)[1:], [[n] for n in range(1, 9)] + [[-5]] * 5)

    def test_of_calls_one_behind_another(self):
        drawn = random.Random(22)
        kinds = [lambda: (FLAT, *[drawn.choice(VALUES) for k in range(4)]),
                 lambda: (NOISE, drawn.randrange(65536), drawn.randint(0, 2), drawn.randint(1, 7), 65535),
                 lambda: (COPY, drawn.randint(0, 2)), lambda: (SWAP,),
                 lambda: (GLOW, 1, 2, drawn.randint(1, 9), 3, 1, *[drawn.choice(VALUES) for k in range(4)]),
                 lambda: (TURN, drawn.randint(-65536, 65536), drawn.randint(-65536, 65536)),
                 lambda: (BEND, drawn.randint(-8192, 8192)), lambda: (JOIN, drawn.randint(0, 7)),
                 lambda: (LEVELS, drawn.randint(0, 30000), drawn.randint(30001, 65535)),
                 lambda: (COLOUR, *[drawn.randint(-600, 600) for k in range(12)]),
                 lambda: (LIGHT, drawn.randint(-256, 256), drawn.randint(-256, 256), drawn.randint(0, 4096))]
        for again in range(20):
            self.check([(OPEN, 2, drawn.randint(2, 3)), NOISY] + [drawn.choice(kinds)() for k in range(24)])


class Requirement2(unittest.TestCase):
    """Blurring a picture that has been moved cyclically gives the blurred picture, moved in the same way."""

    def moved(self, rows, right, down):
        w, h = len(rows[0]), len(rows)
        return [[rows[(y - down) % h][(x - right) % w] for x in range(w)] for y in range(h)]

    def test_of_painted_pictures(self):
        for a, b in ((2, 2), (2, 3), (3, 2)):
            rows = whole([(OPEN, a, b)] + MIXED)
            for numbers in ((1, 2, 1), (15, 15, 3), (4, 0, 2), (0, 9, 1)):
                blurred = whole([(OPEN, a, b)] + painted(rows) + [(BLUR, *numbers)])
                for right, down in ((1, 0), (0, 1), (3, 2), (2, 3)):
                    calls = [(OPEN, a, b)] + painted(self.moved(rows, right, down)) + [(BLUR, *numbers)]
                    self.assertEqual(whole(calls), self.moved(blurred, right, down))

    def test_of_pictures_moved_by_bend(self):
        # With a flat 0 in one channel, bend moves the picture by n / 256 pixels in its direction.
        for a, b in ((2, 4), (4, 3)):
            for right, down in ((1, 0), (5, 0), (0, 1), (0, 7)):
                move = [(FLAT, 0 if right else 32768, 0 if down else 32768, 0, 0), (BEND, 256 * (right + down))]
                rows = whole([(OPEN, a, b)] + MIXED)
                self.assertEqual(whole([(OPEN, a, b)] + MIXED + move), self.moved(rows, right, down))
                for numbers in ((2, 1, 2), (15, 3, 1), (0, 15, 3)):
                    self.assertEqual(whole([(OPEN, a, b)] + MIXED + move + [(BLUR, *numbers)]),
                                     whole([(OPEN, a, b)] + MIXED + [(BLUR, *numbers)] + move))


class Requirement3(unittest.TestCase):
    """If all channels of a picture are from a to b, so are those of the blurred picture."""

    def test_of_two_values(self):
        for low, high in ((0, 65535), (65534, 65535), (0, 1), (300, 310), (777, 777)):
            for numbers in ((1, 1, 1), (15, 15, 3), (0, 3, 2), (2, 0, 3), (0, 0, 1)):
                for size in ((2, 3), (3, 2)):
                    calls = [(OPEN, *size), (FLAT, low, high, low, high), (BOX, 3, 3, 2, 3, high, low, high, low),
                             (BLUR, *numbers)]
                    for row in whole(calls):
                        for colour in row:
                            self.assertTrue(low <= min(colour) and max(colour) <= high, calls)

    def test_of_many_values(self):
        for size in SIZES:
            before = [(OPEN, *size)] + MIXED
            for numbers in ((1, 2, 3), (15, 0, 1)):
                for number in range(4):
                    rows = greys(before, number)
                    low, high = min(map(min, rows)), max(map(max, rows))
                    blurred = greys(before + [(BLUR, *numbers)], number)
                    self.assertTrue(low <= min(map(min, blurred)) and max(map(max, blurred)) <= high)


class Requirement4(unittest.TestCase):
    """turn(16384, 0) changes nothing. If w = h, turn(0, 16384) four times changes nothing."""

    def test_by_nothing(self):
        for size in SIZES + ((5, 2), (2, 6)):
            before = [(OPEN, *size)] + MIXED
            self.assertEqual(whole(before + [(TURN, 16384, 0)]), whole(before))

    def test_by_four_quarters(self):
        for side in (2, 3, 4, 5):
            before = [(OPEN, side, side)] + MIXED
            self.assertNotEqual(whole(before + [(TURN, 0, 16384)]), whole(before))
            self.assertEqual(whole(before + [(TURN, 0, 16384)] * 4), whole(before))

    def test_of_the_greatest_picture(self):
        before = [(OPEN, 6, 6)] + MIXED
        places = [(0, 0), (63, 0), (0, 63), (63, 63), (32, 32), (31, 33), (5, 60), (17, 40)]
        for turns in ([(TURN, 16384, 0)], [(TURN, 0, 16384)] * 4):
            self.assertEqual(colours(before + turns, places), colours(before, places))
            self.assertEqual(ask(before + turns + [(READ_BYTES,)])[-1], ask(before + [(READ_BYTES,)])[-1])


class Requirement5(unittest.TestCase):
    """bend with a flat picture of 32768, 32768, 0, 0 at the top changes nothing in the other picture."""

    def test_with_any_strength(self):
        for size in SIZES:
            before = [(OPEN, *size)] + MIXED
            for n in (-8192, -1, 0, 1, 5000, 8192):
                self.assertEqual(whole(before + [(FLAT, 32768, 32768, 0, 0), (BEND, n)]), whole(before))

    def test_of_the_greatest_picture(self):
        before = [(OPEN, 6, 6)] + MIXED
        calls = before + [(FLAT, 32768, 32768, 0, 0), (BEND, 8192), (READ_BYTES,)]
        self.assertEqual(ask(calls)[-1], ask(before + [(READ_BYTES,)])[-1])


class Requirement6(unittest.TestCase):
    """What the modes of join give."""

    def joined(self, mode, second, top):
        """Of flat pictures: the channels of a pixel for each second and top."""
        calls = [(OPEN, 2, 2)]
        for below, above in zip(second, top):
            calls += [(FLAT, *below), (FLAT, *above), (JOIN, mode)]
        pictures = everything(calls)[0]
        return [picture[1][2] for picture in reversed(pictures)]

    def values(self, mode, b, t, alpha):
        """Mode by mode, the values of b and each t in channel 0."""
        return [colour[0] for colour in self.joined(mode, [(b, 0, 0, 0)] * len(t), [(v, 0, 0, alpha) for v in t])]

    def test_mode_6(self):
        for b in VALUES:
            for start in (0, 3, 6):
                t = VALUES[start:start + 3]
                self.assertEqual(self.values(6, b, t, 65535), list(t))
                self.assertEqual(self.values(6, b, t, 0), [b] * 3)
                for alpha in (1, 32767, 32768, 65534):
                    for above, value in zip(t, self.values(6, b, t, alpha)):
                        self.assertTrue(min(b, above) <= value <= max(b, above), (b, above, alpha))

    def test_mode_2(self):
        for b in VALUES:
            self.assertEqual(self.values(2, b, (65535, 0), 7), [b, 0])

    def test_mode_5(self):
        for b in VALUES:
            self.assertEqual(self.values(5, b, (b,), 7), [b])

    def test_modes_3_4_and_7(self):
        for b in VALUES:
            for start in (0, 3, 6):
                t = VALUES[start:start + 3]
                for above, most, least, difference in zip(t, *[self.values(mode, b, t, 7) for mode in (3, 4, 7)]):
                    self.assertEqual((most + least, most - least), (b + above, difference))

    def test_of_many_values(self):
        for size in ((2, 3), (3, 2)):
            second = [(OPEN, *size)] + MIXED
            top = [(NOISE, 9, 0, 1, 0), (COLOUR, 0, 0, 0, 200, 256, 0, 0, 0, -256, 0, 0, 256)]
            below, above = whole(second), whole([(OPEN, *size)] + top)
            read = {mode: whole(second + top + [(JOIN, mode)]) for mode in (3, 4, 6, 7)}
            self.assertEqual(read[6], above)
            for y, row in enumerate(below):
                for x, colour in enumerate(row):
                    for c in range(4):
                        most, least, difference = [read[mode][y][x][c] for mode in (3, 4, 7)]
                        self.assertEqual(most + least, colour[c] + above[y][x][c])
                        self.assertEqual(most - least, difference)


class Requirement7(unittest.TestCase):
    """The sum of a value's dithered values in a square of 4 by 4 pixels is 16 * q + r."""

    def total(self, value, bits):
        most = 2 ** bits - 1
        return 16 * (value * most // 65535) + value * most % 65535 * 16 // 65535

    def test_of_bytes(self):
        for value in VALUES + (16, 17, 128, 129, 257, 30000, 65278, 65279, 65518, 65519):
            read = ask([(OPEN, 2, 2), (FLAT, value, 0, 65535 - value, value), (READ_BYTES,)])[-1][1:]
            self.assertEqual([sum(read[c::4]) for c in range(4)],
                             [self.total(value, 8), 0, self.total(65535 - value, 8), self.total(value, 8)])

    def test_of_words(self):
        for value in VALUES + (66, 132, 133, 1040, 1041, 2114, 2115, 30000, 64494, 65402, 65469, 65470):
            read = ask([(OPEN, 2, 2), (FLAT, value, value, 65535 - value, 9), (READ_WORDS,)])[-1][1:]
            self.assertEqual((sum(word // 2048 for word in read), sum(word // 32 % 64 for word in read),
                              sum(word % 32 for word in read)),
                             (self.total(value, 5), self.total(value, 6), self.total(65535 - value, 5)))

    def test_in_every_square(self):
        for a, b in ((3, 4), (4, 3)):
            w, h = 2 ** a, 2 ** b
            for value in (9999, 40000, 65500):
                read = ask([(OPEN, a, b), (FLAT, value, value, value, value), (READ_BYTES,)])[-1][1::4]
                for left in range(w - 3):
                    for upper in range(h - 3):
                        square = [read[y * w + x] for y in range(upper, upper + 4) for x in range(left, left + 4)]
                        self.assertEqual(sum(square), self.total(value, 8))


class Requirement8(unittest.TestCase):
    """The channels of a picture of noise are from 0 to 65535, and A(o + 1) is never greater than A(o)."""

    def test_all_values_are_in_range(self):
        for seed in (0, 1, 40000, 65535):
            for fall in (0, 30000, 65535):
                for row in whole([(OPEN, 3, 2), (NOISE, seed, 2, 7, fall)]):
                    for colour in row:
                        self.assertTrue(0 <= min(colour) and max(colour) <= 65535 == colour[3], colour)
                        self.assertEqual(colour[:1] * 3, colour[:3])

    def test_each_layer_weighs_no_more_than_the_one_before(self):
        # With a further layer a pixel grows by N(o) * A(o) / 65536, which is A(o) at most.
        for seed in (3, 4242):
            for fall in (0, 1, 32768, 65534, 65535):
                sums = [greys([(OPEN, 3, 3), (NOISE, seed, 3, layers, fall)]) for layers in range(1, 5)]
                weight = 65535
                for before, after in zip(sums, sums[1:]):
                    weight = weight * fall // 65536
                    for less, more in zip(sum(before, []), sum(after, [])):
                        self.assertTrue(less <= more <= less + weight)


if __name__ == "__main__":
    unittest.main()
