"""The calls open to join through `answers` alone, with pixels read behind them.

The values were worked out from the document; how, is told beside those that are not plain.
"""

import unittest

from helper import (BEND, BLUR, BOX, FLAT, GLOW, JOIN, NOISE, OPEN, PIXEL, READ_BYTES, READ_WORDS, TURN, ask, colours,
                    everything, greys, painted, painted_grey, whole)

SMALL = (OPEN, 2, 2)
TALL = (OPEN, 2, 3)
BLACK = (FLAT, 0, 0, 0, 0)
# The first digit is the row, the second the column.
GRID = [[1000 * y + 100 * x for x in range(4)] for y in range(8)]
SQUARE = GRID[:4]


class Open(unittest.TestCase):
    def test_the_width_and_the_height(self):
        for a in range(2, 7):
            for b in range(2, 7):
                w, h = 2 ** a, 2 ** b
                told = ask([(OPEN, a, b), (FLAT, 1, 2, 3, 4), (PIXEL, w - 1, h - 1), (PIXEL, w, 0), (PIXEL, 0, h),
                            (READ_BYTES,), (READ_WORDS,)])
                self.assertEqual(told[:5], [[0], [1], [0, 1, 2, 3, 4], [-2], [-2]])
                self.assertEqual((told[5][0], told[6][0]), (4 * w * h, w * h))

    def test_in_the_place_of_the_present_stack(self):
        told = ask([(OPEN, 3, 4), (FLAT, 1, 2, 3, 4), (OPEN, 2, 2), (PIXEL, 0, 0), (FLAT, 5, 6, 7, 8), (PIXEL, 3, 3),
                    (PIXEL, 7, 0)])
        self.assertEqual(told, [[0], [1], [0], [-4], [1], [0, 5, 6, 7, 8], [-2]])


class Flat(unittest.TestCase):
    def test_all_pixels_have_the_colour(self):
        for a, b, colour in ((2, 3, (0, 65535, 1, 40000)), (4, 2, (65535, 0, 0, 0)), (2, 2, (7, 7, 7, 65535))):
            self.assertEqual(whole([(OPEN, a, b), (FLAT, *colour)]), [[colour] * 2 ** a] * 2 ** b)

    def test_it_lies_upon_the_others(self):
        self.assertEqual(everything([SMALL, (FLAT, 1, 2, 3, 4), (FLAT, 5, 6, 7, 8)])[0],
                         [[[(5, 6, 7, 8)] * 4] * 4, [[(1, 2, 3, 4)] * 4] * 4])


class Noise(unittest.TestCase):
    def test_a_point_at_each_pixel(self):
        # R(i, j) less 1 where it is not 0, as A(0) = 65535.
        grey = [[0, 715, 17461, 53340], [34226, 64781, 38978, 10309], [55146, 58545, 23546, 43514],
                [13185, 5486, 13734, 54750]]
        self.assertEqual(whole([SMALL, (NOISE, 0, 0, 1, 0)]), [[(v, v, v, 65535) for v in row] for row in grey])

    def test_between_points_and_over_the_edges(self):
        # The points are 40375 30130, 14789 23208, 45071 36709, 10790 20060; S(32768) = 32768.
        rows = greys([TALL, (NOISE, 65535, 1, 1, 65535)])
        self.assertEqual(rows[:3] + rows[7:], [[40374, 35251, 30129, 35251], [27581, 27124, 26668, 27124],
                                               [14788, 18997, 23207, 18997], [25581, 25337, 25094, 25337]])

    def test_along_the_curve(self):
        # The points are 45321 and 25996; S is 0, 10240, 32768 and 55296.
        self.assertEqual(greys([TALL, (NOISE, 9, 2, 1, 0)], 1),
                         [[v] * 4 for v in (45320, 42300, 35657, 29014, 25995, 29014, 35657, 42300)])

    def test_layers(self):
        # A(1) = 32767, then 65534; the points of layer 1 in the first row are 27459 38600 45208 14917.
        self.assertEqual(greys([TALL, (NOISE, 65535, 1, 2, 32768)], 2)[0], [54103, 54550, 52732, 42709])
        self.assertEqual(greys([TALL, (NOISE, 65535, 1, 2, 65535)], 2)[0], [65535, 65535, 65535, 50167])
        self.assertEqual(greys([TALL, (NOISE, 65535, 1, 7, 32768)]), greys([TALL, (NOISE, 65535, 1, 2, 32768)]))

    def test_without_seams(self):
        # With one point for the whole picture all its neighbours are the point itself.
        self.assertEqual(whole([SMALL, (NOISE, 1, 2, 1, 0)]), [[(2741, 2741, 2741, 65535)] * 4] * 4)


class Glow(unittest.TestCase):
    def test_round_the_centre_and_over_the_edges(self):
        # Across, 1 pixel is 128 and 2 are 256; down, 1 is 64, 2 are 128 and 3 are 192.
        self.assertEqual(greys([TALL, BLACK, (GLOW, 0, 7, 2, 4, 1, 256, 0, 0, 0)]), [
            [240, 176, 0, 176], [192, 128, 0, 128], [112, 48, 0, 48], [0] * 4, [112, 48, 0, 48], [192, 128, 0, 128],
            [240, 176, 0, 176], [256, 192, 0, 192]])

    def test_distances_are_rounded_down_on_both_sides(self):
        # 256 / 3 = 85 and -256 / 3 = -86: 65536 - 7225, 65536 - 7396 and 65536 - 7225 - 7396; two pixels are -171
        # on the left and above.
        rows = greys([SMALL, BLACK, (GLOW, 2, 2, 3, 3, 1, 65535, 65535, 65535, 65535)], 3)
        self.assertEqual(rows[1:], [[28898, 50743, 58139, 50914], [36294, 58139, 65535, 58310],
                                    [29069, 50914, 58310, 51085]])

    def test_the_power(self):
        for n, strength in enumerate([49152, 36864, 27648, 20736, 15552, 11664, 8748, 6561], 1):
            self.assertEqual(greys([SMALL, BLACK, (GLOW, 0, 0, 2, 2, n, 65535, 0, 0, 0)])[0],
                             [65535, strength - 1, 0, strength - 1])

    def test_the_sum_is_at_most_65535(self):
        calls = [SMALL, (FLAT, 65535, 65534, 0, 200), (GLOW, 1, 1, 2, 2, 1, 65535, 2, 1, 300)]
        # Beside the centre the strength is 3 / 4.
        self.assertEqual(colours(calls, [(1, 1), (2, 1), (1, 0), (3, 3)]), [
            (65535, 65535, 1, 500), (65535, 65535, 0, 425), (65535, 65535, 0, 425), (65535, 65534, 0, 200)])

    def test_a_centre_outside_a_small_picture(self):
        self.assertEqual(whole([TALL, BLACK, (GLOW, 63, 62, 3, 4, 2, 9, 99, 999, 9999)]),
                         whole([TALL, BLACK, (GLOW, 3, 6, 3, 4, 2, 9, 99, 999, 9999)]))


class Box(unittest.TestCase):
    def boxed(self, *numbers):
        return greys([TALL, BLACK, (BOX, *numbers, 1, 2, 3, 4)])

    def test_inside_and_over_the_edges(self):
        self.assertEqual(self.boxed(1, 2, 2, 3), [[0] * 4] * 2 + [[0, 1, 1, 0]] * 3 + [[0] * 4] * 3)
        self.assertEqual(self.boxed(3, 6, 2, 3), [[1, 0, 0, 1]] + [[0] * 4] * 5 + [[1, 0, 0, 1]] * 2)
        self.assertEqual(self.boxed(63, 62, 2, 3), self.boxed(3, 6, 2, 3))

    def test_nothing_and_all(self):
        for width, height in ((0, 64), (64, 0), (0, 0)):
            self.assertEqual(self.boxed(1, 1, width, height), [[0] * 4] * 8)
        for width, height in ((4, 8), (64, 64)):
            self.assertEqual(self.boxed(3, 5, width, height), [[1] * 4] * 8)

    def test_all_four_channels(self):
        calls = [SMALL, (FLAT, 7, 7, 7, 7), (BOX, 2, 3, 1, 1, 0, 65535, 5, 6)]
        outside = (7, 7, 7, 7)
        self.assertEqual(whole(calls), [[outside] * 4] * 3 + [[outside, outside, (0, 65535, 5, 6), outside]])


class Blur(unittest.TestCase):
    def dotted(self, value, *numbers):
        return greys([TALL, BLACK, (BOX, 0, 0, 1, 1, value, value, value, value), (BLUR, *numbers)], 3)

    def test_across_down_and_both(self):
        self.assertEqual(self.dotted(900, 1, 0, 1), [[300, 300, 0, 300]] + [[0] * 4] * 7)
        self.assertEqual(self.dotted(900, 0, 1, 1), [[300, 0, 0, 0]] * 2 + [[0] * 4] * 5 + [[300, 0, 0, 0]])
        self.assertEqual(self.dotted(900, 1, 1, 1), [[100, 100, 0, 100]] * 2 + [[0] * 4] * 5 + [[100, 100, 0, 100]])

    def test_wider_than_the_picture(self):
        # Of the 31 places from -15 to 15, 7 are the pixel again, and 8 for the others; of 8 rows 3 and 4.
        self.assertEqual(self.dotted(3100, 15, 0, 1)[0], [700, 800, 800, 800])
        self.assertEqual([row[0] for row in self.dotted(3100, 0, 15, 1)], [300] + [400] * 7)

    def test_each_pass_is_rounded_down(self):
        self.assertEqual([self.dotted(100, 1, 0, n)[0] for n in (1, 2, 3)],
                         [[33, 33, 0, 33], [33, 22, 22, 22], [25, 25, 22, 25]])

    def test_across_comes_first(self):
        rows = [[2, 1, 0, 0], [1, 2, 0, 0], [2, 1, 0, 0], [0] * 4]
        self.assertEqual(greys([SMALL] + painted_grey(rows) + [(BLUR, 1, 1, 1)]),
                         [[0] * 4, [1, 1, 0, 0], [0] * 4, [0] * 4])

    def test_no_radius(self):
        self.assertEqual(greys([TALL] + painted_grey(GRID) + [(BLUR, 0, 0, 3)]), GRID)


class Turn(unittest.TestCase):
    def turned(self, rows, *numbers):
        return greys([(OPEN, 2, len(rows).bit_length() - 1)] + painted_grey(rows) + [(TURN, *numbers)])

    def test_by_quarters(self):
        self.assertEqual(self.turned(GRID, 16384, 0), GRID)
        # The pixel comes from (4 - y, x).
        self.assertEqual(self.turned(SQUARE, 0, 16384), [[1000 * x + 100 * (-y % 4) for x in range(4)]
                                                         for y in range(4)])
        self.assertEqual(self.turned(GRID, -16384, 0), [[1000 * (-y % 8) + 100 * (-x % 4) for x in range(4)]
                                                        for y in range(8)])
        # u = x - 2 and v = y - 4: the pixel comes from (2 - v, 4 + u).
        self.assertEqual(self.turned(GRID, 0, 16384), [[1000 * ((2 + x) % 8) + 100 * ((6 - y) % 4) for x in range(4)]
                                                       for y in range(8)])

    def test_made_wider(self):
        # The pixels come from columns 1, 1.5, 2 and 2.5 and rows 2, 2.5 and so on.
        self.assertEqual(self.turned(GRID, 8192, 0), [[2100 + 500 * y + 50 * x for x in range(4)] for y in range(8)])

    def test_places_are_rounded_down(self):
        # -200 / 64 = -4, -100 / 64 = -2, 100 / 64 = 1, and each 1/256 of a pixel is 100 here.
        rows = [[0, 25600, 51200, 0]] * 4
        self.assertEqual(self.turned(rows, 100, 0), [[50800, 51000, 51200, 51000]] * 4)
        self.assertEqual([row[2] for row in self.turned(rows, 0, 1)], [51200, 51200, 51200, 51100])

    def test_nothing_but_the_middle(self):
        self.assertEqual(self.turned(GRID, 0, 0), [[4200] * 4] * 8)

    def test_each_channel_by_itself(self):
        rows = [[(x + 10 * y, x + 10 * y + 100, x + 10 * y + 200, x + 10 * y + 300) for x in range(4)]
                for y in range(4)]
        self.assertEqual(colours([SMALL] + painted(rows) + [(TURN, 0, 16384)], [(1, 3)]), [(11, 111, 211, 311)])


class Bend(unittest.TestCase):
    def bent(self, n, a, b):
        return greys([TALL] + painted_grey(GRID) + [(FLAT, a, b, 12345, 54321), (BEND, n)])

    def test_by_whole_pixels(self):
        self.assertEqual(self.bent(256, 0, 32768), [[row[3], row[0], row[1], row[2]] for row in GRID])
        self.assertEqual(self.bent(256, 32768, 0), [GRID[7]] + GRID[:7])
        self.assertEqual(self.bent(-256, 0, 32768), [[row[1], row[2], row[3], row[0]] for row in GRID])
        self.assertEqual(self.bent(8192, 0, 0), GRID)
        self.assertEqual(self.bent(0, 0, 65535), GRID)

    def test_by_parts_of_a_pixel(self):
        self.assertEqual(self.bent(256, 49152, 32768)[0], [50, 150, 250, 150])
        self.assertEqual(self.bent(256, 32768, 16384)[0], [3500, 3600, 3700, 3800])

    def test_places_are_rounded_down(self):
        # -1 / 32768 = -1, that is 1/256 of a pixel to the left; 1 / 32768 = 0; 32767 * 8192 / 32768 = 8191.
        self.assertEqual(self.bent(1, 32767, 32768)[0][1:], [99, 199, 299])
        self.assertEqual(self.bent(1, 32769, 32769), GRID)
        self.assertEqual(self.bent(8192, 65535, 32768)[0][1:], [99, 199, 299])

    def test_each_pixel_has_its_own_place(self):
        places = [[(32768 + 128 * x, 32768 - 128 * y, 0, 0) for x in range(4)] for y in range(4)]
        calls = [SMALL] + painted_grey(SQUARE) + painted(places) + [(BEND, 8192)]
        # A step of 128 is 32/256 of a pixel.
        self.assertEqual(greys(calls)[0], [0, 112, 225, 187])
        self.assertEqual([row[0] for row in greys(calls)], [0, 875, 1750, 2625])

    def test_the_top_is_removed(self):
        calls = [SMALL, (FLAT, 1, 2, 3, 4), (FLAT, 5, 6, 7, 8), (FLAT, 0, 0, 0, 0), (BEND, 777)]
        self.assertEqual(ask(calls)[-1], [2])
        self.assertEqual(everything(calls)[0], [[[(5, 6, 7, 8)] * 4] * 4, [[(1, 2, 3, 4)] * 4] * 4])


class Join(unittest.TestCase):
    second = (1000, 65535, 0, 40000)
    top = (300, 1, 65535, 20000)

    def joined(self, mode, second, top):
        return colours([SMALL, (FLAT, *second), (FLAT, *top), (JOIN, mode)], [(3, 2)])[0]

    def test_the_modes(self):
        # 1000 * 300 / 65535 = 4.58; 40000 * 20000 / 65535 = 12207.22
        # (1000 * 45535 + 300 * 20000) / 65535 = 786.37; (40000 * 45535 + 20000 * 20000) / 65535 = 33896.39
        for mode, read in enumerate(((1300, 65535, 65535, 60000), (700, 65534, 0, 20000), (5, 1, 0, 12207),
                                     (1000, 65535, 65535, 40000), (300, 1, 0, 20000), (650, 32768, 32768, 30000),
                                     (786, 45535, 20000, 33896), (700, 65534, 65535, 20000))):
            self.assertEqual(self.joined(mode, self.second, self.top), read, mode)

    def test_the_modes_with_the_top_below(self):
        # (300 * 25535 + 1000 * 40000) / 65535 = 727.26; (25535 + 65535 * 40000) / 65535 = 40000.39
        # 65535 * 25535 / 65535 = 25535; (20000 * 25535 + 40000 * 40000) / 65535 = 32207.22
        for mode, read in enumerate(((1300, 65535, 65535, 60000), (0, 0, 65535, 0), (5, 1, 0, 12207),
                                     (1000, 65535, 65535, 40000), (300, 1, 0, 20000), (650, 32768, 32768, 30000),
                                     (727, 40000, 25535, 32207), (700, 65534, 65535, 20000))):
            self.assertEqual(self.joined(mode, self.top, self.second), read, mode)

    def test_rounding(self):
        self.assertEqual(self.joined(2, (32767, 32768, 65535, 0), (1, 1, 65535, 0)), (0, 1, 65535, 0))
        self.assertEqual(self.joined(5, (2, 3, 0, 65535), (3, 3, 1, 65534)), (3, 3, 1, 65535))
        # 10 * 32767 / 65535 = 4.99992 and 10 * 32768 / 65535 = 5.00008; a tenth of them lies on both sides of a half.
        self.assertEqual(self.joined(6, (10, 0, 1, 0), (0, 10, 0, 32768)), (5, 5, 0, 16384))
        self.assertEqual(self.joined(6, (0, 1, 0, 0), (1, 0, 0, 32768)), (1, 0, 0, 16384))

    def test_each_pixel_by_itself_with_the_alpha_of_the_top(self):
        top = [[(100 * x, 0, 0, alpha) for x, alpha in enumerate((65535, 0, 65535, 0))] for y in range(4)]
        second = [[(1000 * y + x, 5, 6, 7) for x in range(4)] for y in range(4)]
        read = whole([SMALL] + painted(second) + painted(top) + [(JOIN, 6)])
        self.assertEqual(read, [[second[y][x] if x % 2 else top[y][x] for x in range(4)] for y in range(4)])

    def test_two_become_one(self):
        calls = [SMALL, (FLAT, 1, 1, 1, 1), (FLAT, 20, 20, 20, 20), (FLAT, 300, 300, 300, 300), (JOIN, 7)]
        self.assertEqual(ask(calls)[-1], [2])
        self.assertEqual(everything(calls)[0], [[[(280,) * 4] * 4] * 4, [[(1,) * 4] * 4] * 4])


if __name__ == "__main__":
    unittest.main()
