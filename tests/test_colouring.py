"""The calls levels and colour."""

import unittest

from helper import (BOX, COLOUR, FLAT, LEVELS, NOISE, OPEN, TURN, ask, check_against_model, colours, everything,
                    painted, painted_grey, whole)

SMALL = (OPEN, 2, 2)
SAME = (256, 0, 0, 0, 0, 256, 0, 0, 0, 0, 256, 0)


def levelled(colour, low, high):
    return colours([SMALL, (FLAT, *colour), (LEVELS, low, high)], [(3, 3)])[0]


def level(value, low, high):
    """What becomes of the value; it stands in each of the colour channels once, between others."""
    read = [levelled((value, 0, 65535, 9), low, high)[0], levelled((0, value, 0, 9), low, high)[1],
            levelled((65535, 65535, value, 9), low, high)[2]]
    assert read[0] == read[1] == read[2]
    return read[0]


def coloured(colour, *matrix):
    return colours([SMALL, (FLAT, *colour), (COLOUR, *matrix)], [(2, 1)])[0]


def mixed(colour, *row):
    """What the row of coefficients makes of the colour; it stands in each row of the matrix once."""
    none = (0, 0, 0, 0)
    read = [coloured(colour, *row, *none, *none)[0], coloured(colour, *none, *row, *none)[1],
            coloured(colour, *none, *none, *row)[2]]
    assert read[0] == read[1] == read[2]
    return read[0]


class Levels(unittest.TestCase):
    def test_at_and_beyond_both_ends(self):
        for value, answer in ((0, 0), (999, 0), (1000, 0), (1001, 66), (1999, 65469), (2000, 65535), (2001, 65535),
                              (65535, 65535)):
            # 65535 / 1000 = 65.535; 999 * 65535 / 1000 = 65469.465
            self.assertEqual(level(value, 1000, 2000), answer, value)

    def test_rounded_to_the_nearest(self):
        # 65535 / 3 = 21845; with 7 parts 9362.14, 18724.29, 28086.43, 37448.57, 46810.71, 56172.86
        self.assertEqual([level(value, 10, 13) for value in range(9, 15)], [0, 0, 21845, 43690, 65535, 65535])
        self.assertEqual([level(value, 100, 107) for value in range(100, 108)],
                         [0, 9362, 18724, 28086, 37449, 46811, 56173, 65535])

    def test_from_the_middle_to_the_greater(self):
        # 500 * 65535 / 1000, 1 * 65535 / 2 and 32767 * 65535 / 65534 are 32767.5.
        self.assertEqual((level(1500, 1000, 2000), level(1, 0, 2), level(32767, 0, 65534)), (32768, 32768, 32768))

    def test_a_step_of_one(self):
        for low in (0, 1000, 65534):
            for value, answer in ((0, 0), (low, 0), (low + 1, 65535), (65535, 65535)):
                self.assertEqual(level(value, low, low + 1), answer, (low, value))

    def test_the_whole_range_changes_nothing(self):
        for value in (0, 1, 32767, 32768, 65534, 65535):
            self.assertEqual(level(value, 0, 65535), value)

    def test_nearly_the_whole_range(self):
        # 65535 / 65534 = 1.00002; 65533 * 65535 / 65534 = 65533.99998
        self.assertEqual((level(1, 0, 65534), level(65533, 0, 65534), level(65534, 0, 65534)), (1, 65534, 65535))
        self.assertEqual((level(1, 1, 65535), level(2, 1, 65535), level(65534, 1, 65535)), (0, 1, 65534))

    def test_the_alpha_channel_stays(self):
        for alpha in (0, 1, 1500, 40000, 65535):
            self.assertEqual(levelled((1500, 999, 2001, alpha), 1000, 2000), (32768, 0, 65535, alpha))

    def test_each_pixel_by_itself(self):
        rows = [[1000 + 250 * x + 50 * y for x in range(4)] for y in range(4)]
        # 50 * 65535 / 1000 = 3276.75
        steps = [0, 3277, 6554, 9830, 16384, 19661, 22937, 26214,
                 32768, 36044, 39321, 42598, 49151, 52428, 55705, 58982]
        read = whole([SMALL] + painted_grey(rows, 7) + [(LEVELS, 1000, 2000)])
        self.assertEqual(read, [[(steps[y + 4 * x],) * 3 + (7,) for x in range(4)] for y in range(4)])

    def test_only_the_top(self):
        calls = [SMALL, (FLAT, 1, 2, 3, 4), (FLAT, 1500, 1500, 0, 5), (LEVELS, 1000, 2000)]
        self.assertEqual(ask(calls)[-1], [2])
        self.assertEqual(everything(calls)[0], [[[(32768, 32768, 0, 5)] * 4] * 4, [[(1, 2, 3, 4)] * 4] * 4])

    def test_against_the_model(self):
        for a, b in ((2, 4), (4, 2), (3, 3)):
            for numbers in ((0, 65535), (0, 1), (65534, 65535), (20000, 45000), (30000, 30007), (0, 40000)):
                check_against_model(self, [(OPEN, a, b), (NOISE, 5, 1, 2, 50000), (TURN, 9000, 9000),
                                           (BOX, 1, 1, 3, 2, 0, 30003, 65535, 12), (LEVELS, *numbers)])


class Colour(unittest.TestCase):
    def test_256_in_the_diagonal_changes_nothing(self):
        for colour in ((0, 1, 65535, 40000), (65535, 65534, 32768, 0), (7, 8, 9, 65535)):
            self.assertEqual(coloured(colour, *SAME), colour)

    def test_each_coefficient_has_its_channel(self):
        colour = (1000, 20000, 300, 65535)
        self.assertEqual(mixed(colour, 256, 0, 0, 0), 1000)
        self.assertEqual(mixed(colour, 0, 256, 0, 0), 20000)
        self.assertEqual(mixed(colour, 0, 0, 256, 0), 300)
        self.assertEqual(mixed(colour, 0, 0, 0, 1), 256)
        self.assertEqual(mixed(colour, 0, 0, 0, 255), 65280)
        # (512 * 1000 + 128 * 20000 - 256 * 300 + 65536 * 10) / 256
        self.assertEqual(mixed(colour, 512, 128, -256, 10), 2000 + 10000 - 300 + 2560)

    def test_each_row_has_its_channel_and_takes_the_values_as_they_were(self):
        self.assertEqual(coloured((1, 20, 300, 4000), 0, 256, 0, 0, 0, 0, 256, 0, 256, 0, 0, 0), (20, 300, 1, 4000))
        self.assertEqual(coloured((1, 20, 300, 4000), 0, 0, 256, 0, 256, 0, 0, 0, 0, 256, 0, 0), (300, 1, 20, 4000))
        self.assertEqual(coloured((1, 20, 300, 4000), 0, 0, 0, 3, 256, 256, 256, 0, 512, 0, -256, 2),
                         (768, 321, 214, 4000))

    def test_the_sum_is_rounded_down_once(self):
        self.assertEqual(mixed((1, 1, 1, 0), 128, 127, 0, 0), 0)
        self.assertEqual(mixed((1, 1, 1, 0), 128, 128, 0, 0), 1)
        self.assertEqual(mixed((1, 1, 1, 0), 255, 255, 1, 0), 1)
        # (-1 + 65536) / 256 and (65535 * 255 + 65536) / 256 = 65535.004
        self.assertEqual(mixed((1, 0, 0, 0), -1, 0, 0, 1), 255)
        self.assertEqual(mixed((65535, 0, 0, 0), 255, 0, 0, 1), 65535)
        # 65535 * 255 / 256 = 65279.004
        self.assertEqual(mixed((0, 65535, 0, 0), 0, 255, 0, 0), 65279)

    def test_below_0_and_above_65535(self):
        self.assertEqual(mixed((0, 0, 0, 0), 0, 0, 0, -1), 0)
        self.assertEqual(mixed((1, 0, 0, 0), -1, 0, 0, 0), 0)
        self.assertEqual(mixed((0, 0, 0, 0), 0, 0, 0, 256), 65535)
        self.assertEqual(mixed((65535, 0, 0, 0), 257, 0, 0, 0), 65535)
        # 65535 + 1, 65535 + 0 and 65535 - 1
        self.assertEqual([mixed((65535, 1, 1, 0), 256, one, 0, 0) for one in (256, 0, -256)], [65535, 65535, 65534])
        self.assertEqual([mixed((65535, 65535, 1, 0), 256, -256, one, 0) for one in (256, 0, -256)], [1, 0, 0])

    def test_the_greatest_and_the_least_coefficients(self):
        white = (65535, 65535, 65535, 65535)
        self.assertEqual(mixed(white, 32767, 32767, 32767, 32767), 65535)
        self.assertEqual(mixed(white, -32768, -32768, -32768, -32768), 0)
        self.assertEqual(mixed((0, 0, 0, 0), 32767, 32767, 32767, 0), 0)
        self.assertEqual(mixed((0, 0, 0, 0), -32768, -32768, -32768, 0), 0)
        # 3 * 32767 / 256 = 383.99; 2 * 32767 - 32768 = 32766, and that / 256 = 127.99
        self.assertEqual(mixed((1, 1, 1, 0), 32767, 32767, 32767, 0), 383)
        self.assertEqual(mixed((1, 1, 1, 0), 32767, 32767, -32768, 0), 127)
        # (2 * 65536 - 65535) / 256 = 256.004
        self.assertEqual(mixed(white, 32767, -32768, 0, 2), 256)
        # (65535 * 32767 - 65536 * 32768) / 256 = -384; (65536 * 32767 - 65535 * 32768) / 256 = -128
        self.assertEqual((mixed(white, 32767, 0, 0, -32768), mixed(white, -32768, 0, 0, 32767)), (0, 0))
        # (65536 * 32767 - 65535 * 32767) / 256 = 127.99
        self.assertEqual(mixed(white, 0, 0, -32767, 32767), 127)

    def test_the_alpha_channel_stays_and_is_not_asked(self):
        for alpha in (0, 1, 40000, 65535):
            self.assertEqual(coloured((5, 6, 7, alpha), 256, 256, 256, 0, 0, 0, 0, 1, 0, 0, 0, -1),
                             (18, 256, 0, alpha))

    def test_each_pixel_by_itself(self):
        rows = [[(1000 * x, 100 * y, x + y, 10 * x + y) for x in range(4)] for y in range(4)]
        read = whole([SMALL] + painted(rows) + [(COLOUR, 0, 256, 0, 0, 256, 0, 0, 0, 256, 256, 256, 1)])
        self.assertEqual(read, [[(100 * y, 1000 * x, 1001 * x + 101 * y + 256, 10 * x + y) for x in range(4)]
                                for y in range(4)])

    def test_only_the_top(self):
        calls = [SMALL, (FLAT, 1, 2, 3, 4), (FLAT, 10, 20, 30, 40), (COLOUR, 0, 0, 256, 0, *SAME[4:])]
        self.assertEqual(ask(calls)[-1], [2])
        self.assertEqual(everything(calls)[0], [[[(30, 20, 30, 40)] * 4] * 4, [[(1, 2, 3, 4)] * 4] * 4])

    def test_against_the_model(self):
        matrices = (SAME, (100, 200, -300, 4, -50, 60, 70, 8, 256, 0, -256, 90), (32767,) * 12, (-32768,) * 12,
                    (-256, 0, 0, 256, 32767, -32768, 0, 100, 85, 85, 86, -3))
        for a, b in ((2, 4), (4, 2), (3, 3)):
            for matrix in matrices:
                check_against_model(self, [(OPEN, a, b), (NOISE, 5, 1, 2, 50000), (TURN, 9000, 9000),
                                           (BOX, 1, 1, 3, 2, 0, 30003, 65535, 12), (COLOUR, *matrix)])


if __name__ == "__main__":
    unittest.main()
