"""The calls read_bytes and read_words, and the dithering that both use."""

import unittest

from glowtiles.dithering import dithered
from helper import (BOX, DROP, FLAT, NOISE, OPEN, READ_BYTES, READ_WORDS, THRESHOLDS, TURN, ask, check_against_model,
                    everything, painted)

SMALL = (OPEN, 2, 2)
# The bits of channels 0, 1 and 2 in a word, and what they are multiplied by.
WORD = ((0, 5, 2048), (1, 6, 32), (2, 5, 1))


def read_bytes(value, channel):
    """One channel of a flat picture of 4 by 4 pixels in 8 bits, as rows; the others are 0 and 65535."""
    colour = [0, 65535, 0, 65535]
    colour[channel] = value
    count, *read = ask([SMALL, (FLAT, *colour), (READ_BYTES,)])[-1]
    assert count == len(read) == 64
    kept = [value for place, value in enumerate(read) if place % 4 != channel]
    assert kept == [value // 65535 * 255 for number, value in enumerate(colour) if number != channel] * 16
    read = read[channel::4]
    return [read[start:start + 4] for start in range(0, 16, 4)]


def read_words(value, channel):
    """One channel of a flat picture of 4 by 4 pixels as it stands in the words, as rows; the others are 0."""
    colour = [0, 0, 0, 12345]
    colour[channel] = value
    count, *read = ask([SMALL, (FLAT, *colour), (READ_WORDS,)])[-1]
    assert count == len(read) == 16
    scale = WORD[channel][2]
    assert all(word % scale == 0 for word in read)
    return [[word // scale for word in read[start:start + 4]] for start in range(0, 16, 4)]


def steps(most, lower, rest):
    """The value lower at the places whose number in the table is the rest or more, one more at the others."""
    assert lower < most or rest == 0
    return [[lower + 1 if number < rest else lower for number in row] for row in THRESHOLDS]


def first_value(bits, sixteenths):
    """The least value that is so many sixteenths of a step, or more, in so many bits."""
    return -(-65535 * sixteenths // (16 * (2 ** bits - 1)))


class Bytes(unittest.TestCase):
    def test_nothing_and_all(self):
        for channel in range(4):
            self.assertEqual(read_bytes(0, channel), [[0] * 4] * 4)
            self.assertEqual(read_bytes(65535, channel), [[255] * 4] * 4)

    def test_whole_steps_are_the_same_at_all_places(self):
        # 65535 / 255 = 257
        for step in (1, 2, 77, 128, 254):
            for channel in range(4):
                self.assertEqual(read_bytes(257 * step, channel), [[step] * 4] * 4)

    def test_half_a_step(self):
        # 128 * 16 / 257 = 7.97 and 129 * 16 / 257 = 8.03: with r = 7 the places up to 6 are rounded up, with 8 up to 7.
        self.assertEqual(read_bytes(257 * 10 + 128, 0), [[11, 10, 11, 10], [10, 11, 10, 11], [11, 10, 11, 10],
                                                         [10, 10, 10, 11]])
        self.assertEqual(read_bytes(257 * 10 + 129, 0), [[11, 10, 11, 10], [10, 11, 10, 11], [11, 10, 11, 10],
                                                         [10, 11, 10, 11]])

    def test_just_above_and_just_below_a_whole_step(self):
        # 16 * 16 / 257 is below 1, 17 * 16 / 257 above; 256 * 16 / 257 = 15.9.
        self.assertEqual(read_bytes(257 * 3 + 16, 3), [[3] * 4] * 4)
        self.assertEqual(read_bytes(257 * 3 + 17, 3), [[4, 3, 3, 3]] + [[3] * 4] * 3)
        self.assertEqual(read_bytes(257 * 3 + 256, 3), [[4] * 4] * 3 + [[3, 4, 4, 4]])
        self.assertEqual(read_bytes(65534, 3), [[255] * 4] * 3 + [[254, 255, 255, 255]])
        self.assertEqual((read_bytes(16, 2), read_bytes(17, 2)), ([[0] * 4] * 4, [[1, 0, 0, 0]] + [[0] * 4] * 3))

    def test_next_to_a_step_at_all_sixteen_places(self):
        for number in range(16):
            for lower in (0, 100, 254):
                # 16 * (16 * (number + 1) + 1) is the first multiple of 16 from 257 * (number + 1) on.
                value = 257 * lower + 16 * (number + 1) + 1
                self.assertEqual(value, first_value(8, 16 * lower + number + 1))
                for channel in (0, 3):
                    self.assertEqual(read_bytes(value - 1, channel), steps(255, lower, number))
                    self.assertEqual(read_bytes(value, channel), steps(255, lower, number + 1))

    def test_row_by_row_and_the_four_channels_of_each_pixel(self):
        for a, b in ((2, 3), (3, 2), (2, 2)):
            w, h = 2 ** a, 2 ** b
            rows = [[(x, 10 * y, 255 - x - y, 100 + w * y + x) for x in range(w)] for y in range(h)]
            picture = painted([[tuple(257 * value for value in colour) for colour in row] for row in rows])
            read = [value for row in rows for colour in row for value in colour]
            self.assertEqual(ask([(OPEN, a, b)] + picture + [(READ_BYTES,)])[-1], [4 * w * h] + read)

    def test_the_table_is_repeated_in_both_directions(self):
        for a, b in ((2, 4), (4, 2), (3, 5), (6, 6)):
            w, h = 2 ** a, 2 ** b
            # A quarter of a step, half a one, three quarters, and a whole one: r = 4, 8, 12 and 0.
            read = ask([(OPEN, a, b), (FLAT, 65, 129, 193, 257), (READ_BYTES,)])[-1]
            place = 1
            for y in range(h):
                for x in range(w):
                    number = THRESHOLDS[y % 4][x % 4]
                    self.assertEqual(read[place:place + 4], [int(number < 4), int(number < 8), int(number < 12), 1])
                    place += 4

    def test_the_number_of_values(self):
        for a in range(2, 7):
            for b in range(2, 7):
                read = ask([(OPEN, a, b), (FLAT, 1, 2, 3, 4), (FLAT, 257, 514, 0, 65535), (READ_BYTES,)])[-1]
                self.assertEqual(read, [4 * 2 ** a * 2 ** b] + [1, 2, 0, 255] * (2 ** a * 2 ** b))


class Words(unittest.TestCase):
    def test_nothing_and_all(self):
        for channel, bits, scale in WORD:
            self.assertEqual(read_words(0, channel), [[0] * 4] * 4)
            self.assertEqual(read_words(65535, channel), [[2 ** bits - 1] * 4] * 4)

    def test_where_each_channel_stands(self):
        for colour, word in (((65535, 0, 0, 0), 63488), ((0, 65535, 0, 0), 2016), ((0, 0, 65535, 0), 31),
                             ((65535, 65535, 65535, 0), 65535), ((0, 0, 0, 65535), 0)):
            self.assertEqual(ask([SMALL, (FLAT, *colour), (READ_WORDS,)])[-1], [16] + [word] * 16)

    def test_whole_steps_are_the_same_at_all_places(self):
        # 65535 / 31 = 2114.03 and 65535 / 63 = 1040.24, so that these are the first values of their steps.
        for value, channel, step in ((2115, 0, 1), (4229, 0, 2), (1041, 1, 1), (64495, 1, 62), (2115, 2, 1),
                                     (63421, 2, 30)):
            self.assertEqual(read_words(value, channel), [[step] * 4] * 4)
            self.assertEqual(read_words(value - 1, channel), [[step] * 4] * 3 + [[step - 1, step, step, step]])

    def test_the_first_values_that_are_rounded_up(self):
        # 65535 / (31 * 16) = 132.13; 65535 / (63 * 16) = 65.01
        for value, channel in ((133, 0), (66, 1), (133, 2)):
            self.assertEqual(read_words(value - 1, channel), [[0] * 4] * 4)
            self.assertEqual(read_words(value, channel), [[1, 0, 0, 0]] + [[0] * 4] * 3)

    def test_half_a_step(self):
        # 65535 * 8 / (31 * 16) = 1057.02; 65535 * 8 / (63 * 16) = 520.12
        for value, channel in ((1058, 0), (521, 1), (1058, 2)):
            self.assertEqual(read_words(value - 1, channel), [[1, 0, 1, 0], [0, 1, 0, 1], [1, 0, 1, 0], [0, 0, 0, 1]])
            self.assertEqual(read_words(value, channel), [[1, 0, 1, 0], [0, 1, 0, 1], [1, 0, 1, 0], [0, 1, 0, 1]])

    def test_next_to_a_step_at_all_sixteen_places(self):
        for channel, bits, scale in WORD:
            most = 2 ** bits - 1
            for number in range(16):
                for lower in (0, 13, most - 1):
                    value = first_value(bits, 16 * lower + number + 1)
                    self.assertEqual(read_words(value - 1, channel), steps(most, lower, number))
                    self.assertEqual(read_words(value, channel), steps(most, lower, number + 1))

    def test_row_by_row(self):
        for a, b in ((2, 3), (3, 2), (2, 2)):
            w, h = 2 ** a, 2 ** b
            picture = painted([[(first_value(5, 48 * x), first_value(6, 112 * y), first_value(5, 496 - 16 * x), 9)
                                for x in range(w)] for y in range(h)])
            read = [2048 * 3 * x + 32 * 7 * y + 31 - x for y in range(h) for x in range(w)]
            self.assertEqual(ask([(OPEN, a, b)] + picture + [(READ_WORDS,)])[-1], [w * h] + read)

    def test_the_table_is_repeated_in_both_directions(self):
        for a, b in ((2, 4), (4, 2), (3, 5), (6, 6)):
            w, h = 2 ** a, 2 ** b
            # A quarter of a step, half a one and three quarters: r = 4, 8 and 12.
            read = ask([(OPEN, a, b), (FLAT, 529, 521, 1586, 0), (READ_WORDS,)])[-1]
            words = [2048 * (number < 4) + 32 * (number < 8) + (number < 12)
                     for y in range(h) for number in THRESHOLDS[y % 4] * (w // 4)]
            self.assertEqual(read, [w * h] + words)

    def test_the_number_of_pixels(self):
        for a in range(2, 7):
            for b in range(2, 7):
                read = ask([(OPEN, a, b), (FLAT, 1, 2, 3, 4), (FLAT, 65535, 0, 65535, 0), (READ_WORDS,)])[-1]
                self.assertEqual(read, [2 ** a * 2 ** b] + [63519] * (2 ** a * 2 ** b))


class Both(unittest.TestCase):
    def test_the_top_alone_is_read(self):
        calls = [SMALL, (FLAT, 65535, 65535, 65535, 65535), (FLAT, 0, 0, 0, 0), (READ_BYTES,), (READ_WORDS,), (DROP,),
                 (READ_BYTES,), (READ_WORDS,)]
        told = ask(calls)
        self.assertEqual(told[3:5], [[64] + [0] * 64, [16] + [0] * 16])
        self.assertEqual(told[6:], [[64] + [255] * 64, [16] + [65535] * 16])

    def test_reading_changes_nothing(self):
        before = [(OPEN, 2, 3), (NOISE, 1, 1, 2, 50000), (NOISE, 2, 2, 3, 50000)]
        self.assertEqual(everything(before + [(READ_BYTES,), (READ_WORDS,), (READ_BYTES,)]), everything(before))
        once, again = ask(before + [(READ_BYTES,)] * 2)[-2:]
        self.assertEqual(once, again)

    def test_against_the_model(self):
        for a, b in ((2, 4), (4, 2), (3, 3)):
            for seed in range(5):
                check_against_model(self, [(OPEN, a, b), (NOISE, seed, 1, 2, 50000), (TURN, 9000, 9000),
                                           (BOX, 1, 1, 3, 2, 0, 300, 65535, 12), (READ_BYTES,), (READ_WORDS,)])


class AnyNumberOfBits(unittest.TestCase):
    def test_nothing_and_all(self):
        for bits in range(1, 9):
            for number in range(16):
                self.assertEqual((dithered(0, bits, number), dithered(65535, bits, number)), (0, 2 ** bits - 1))

    def test_next_to_a_step(self):
        for bits in range(1, 9):
            for number in range(16):
                for lower in (0, 2 ** bits - 2):
                    value = first_value(bits, 16 * lower + number + 1)
                    self.assertEqual((dithered(value - 1, bits, number), dithered(value, bits, number)),
                                     (lower, lower + 1))


if __name__ == "__main__":
    unittest.main()
