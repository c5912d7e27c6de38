"""The call light."""

import unittest

from helper import (BOX, FLAT, LIGHT, NOISE, OPEN, TURN, ask, check_against_model, everything, greys, painted,
                    painted_grey, whole)

# With lx or ly = 256 and n = 256 the difference itself is added to 32768.
SLOPE = [0, 1000, 3000, 6000]
ACROSS = [SLOPE] * 8
# The differences of SLOPE: 1000 - 6000, 3000 - 0, 6000 - 1000, 0 - 3000.
LIT = [27768, 35768, 37768, 29768]
DARK = [37768, 29768, 27768, 35768]
DOWN = [[value] * 8 for value in SLOPE]


def lit(rows, lx, ly, n):
    size = (OPEN, len(rows[0]).bit_length() - 1, len(rows).bit_length() - 1)
    return greys([size] + painted_grey(rows) + [(LIGHT, lx, ly, n)])


def lit_corner(right, left, lx, n):
    """The brightness of the first pixel between the values of the next to the right and that to the left."""
    return lit([[0, right, 0, left]] + [[0] * 4] * 3, lx, 0, n)[0][0]


class Light(unittest.TestCase):
    def test_across_and_over_the_edges(self):
        self.assertEqual(lit(ACROSS, 256, 0, 256), [LIT] * 8)

    def test_down_and_over_the_edges(self):
        self.assertEqual(lit(DOWN, 0, 256, 256), [[value] * 8 for value in LIT])

    def test_from_the_other_side(self):
        self.assertEqual(lit(ACROSS, -256, 0, 256), [DARK] * 8)
        self.assertEqual(lit(DOWN, 0, -256, 256), [[value] * 8 for value in DARK])

    def test_lx_is_for_the_rows_and_ly_for_the_columns(self):
        self.assertEqual(lit(ACROSS, 0, 256, 256), [[32768] * 4] * 8)
        self.assertEqual(lit(DOWN, 256, 0, 256), [[32768] * 8] * 4)

    def test_the_next_pixels_right_left_below_and_above(self):
        rows = [[0] * 8 for y in range(4)]
        rows[2][5] = 1000
        read = [[32768] * 8 for y in range(4)]
        # The pixel to the left has it on its right, the one above has it below.
        read[2][4], read[2][6], read[1][5], read[3][5] = 33768, 31768, 33268, 32268
        self.assertEqual(lit(rows, 256, 128, 256), read)

    def test_a_corner_lights_the_pixels_across_the_edges(self):
        rows = [[1000] + [0] * 3] + [[0] * 4] * 7
        read = [[32768] * 4 for y in range(8)]
        read[0][3], read[0][1], read[7][0], read[1][0] = 33768, 31768, 32268, 33268
        self.assertEqual(lit(rows, 256, -128, 256), read)

    def test_both_directions_are_added(self):
        rows = [[2 * x + 3 * y for x in range(4)] for y in range(4)]
        # dx is -4 at both edges and 4 between them, dy is -6 and 6.
        read = [[32768 + dx + dy for dx in (-4, 4, 4, -4)] for dy in (-6, 6, 6, -6)]
        self.assertEqual(lit(rows, 256, 256, 256), read)
        # (-4 * 256 - 6 * -128) * 256 / 65536 = -1 and so on.
        read = [[32768 + dx - dy // 2 for dx in (-4, 4, 4, -4)] for dy in (-6, 6, 6, -6)]
        self.assertEqual(lit(rows, 256, -128, 256), read)

    def test_rounded_down(self):
        # -5000 / 65536 and -3000 / 65536 become -1, 3000 / 65536 and 5000 / 65536 become 0.
        self.assertEqual(lit(ACROSS, 1, 0, 1)[0], [32767, 32768, 32768, 32767])
        self.assertEqual(lit(ACROSS, -1, 0, 1)[0], [32768, 32767, 32767, 32768])
        # -5000 * 3 * 9 / 65536 = -2.06; 3000 * 27 / 65536 = 1.24; 5000 * 27 / 65536 = 2.06; -3000 * 27 / 65536 = -1.24
        self.assertEqual(lit(ACROSS, 3, 0, 9)[0], [32765, 32769, 32770, 32766])

    def test_the_sum_is_rounded_down_once(self):
        # In the corner dx = 1 and dy = -1: apart, they would be 0 and -1.
        rows = [[0, 1, 0, 0], [0] * 4, [0] * 4, [1, 0, 0, 0]]
        self.assertEqual(lit(rows, 1, 1, 1)[0][0], 32768)
        # 1 * 256 * 255 / 65536 = 0.996, and twice as much 1.99
        self.assertEqual(lit_corner(1, 0, 256, 255), 32768)
        self.assertEqual(lit([[0, 1, 0, 0], [1] + [0] * 3, [0] * 4, [0] * 4], 256, 256, 255)[0][0], 32769)

    def test_no_strength(self):
        self.assertEqual(lit(ACROSS, 256, -256, 0), [[32768] * 4] * 8)

    def test_no_direction(self):
        self.assertEqual(lit(ACROSS, 0, 0, 4096), [[32768] * 4] * 8)

    def test_the_greatest_strength(self):
        # 256 * 4096 / 65536 = 16
        self.assertEqual([lit_corner(*ends, 256, 4096) for ends in ((1, 0), (0, 1), (9, 3))], [32784, 32752, 32864])
        self.assertEqual([lit_corner(*ends, -256, 4096) for ends in ((1, 0), (0, 1), (9, 3))], [32752, 32784, 32672])

    def test_clamped_at_both_ends(self):
        self.assertEqual([lit_corner(right, 0, 256, 256) for right in (32766, 32767, 32768, 65535)],
                         [65534, 65535, 65535, 65535])
        self.assertEqual([lit_corner(0, left, 256, 256) for left in (32767, 32768, 32769, 65535)], [1, 0, 0, 0])
        self.assertEqual((lit_corner(65535, 0, 256, 4096), lit_corner(65535, 0, -256, 4096)), (65535, 0))
        white = [[0, 65535, 0, 0], [65535] + [0] * 3, [0] * 4, [0] * 4]
        self.assertEqual((lit(white, 256, 256, 4096)[0][0], lit(white, -256, -256, 4096)[0][0]), (65535, 0))

    def test_only_channel_0_counts_and_the_alpha_channel_stays(self):
        rows = [[(SLOPE[x], 900 * y, 65535 - 100 * x * y, 1000 * x + y) for x in range(4)] for y in range(8)]
        read = whole([(OPEN, 2, 3)] + painted(rows) + [(LIGHT, 256, 256, 256)])
        self.assertEqual(read, [[(LIT[x],) * 3 + (1000 * x + y,) for x in range(4)] for y in range(8)])

    def test_a_flat_picture_gives_no_slope(self):
        for value in (0, 1, 65535):
            self.assertEqual(whole([(OPEN, 2, 2), (FLAT, value, 3, 4, value), (LIGHT, 256, 256, 4096)]),
                             [[(32768, 32768, 32768, value)] * 4] * 4)

    def test_only_the_top(self):
        calls = [(OPEN, 2, 2), (FLAT, 1, 2, 3, 4), (FLAT, 10, 20, 30, 40), (BOX, 1, 0, 1, 4, 1010, 0, 0, 50),
                 (LIGHT, 256, 0, 256)]
        self.assertEqual(ask(calls)[-1], [2])
        row = [(33768, 33768, 33768, 40), (32768, 32768, 32768, 50), (31768, 31768, 31768, 40),
               (32768, 32768, 32768, 40)]
        self.assertEqual(everything(calls)[0], [[row] * 4, [[(1, 2, 3, 4)] * 4] * 4])

    def test_against_the_model(self):
        for a, b in ((2, 4), (4, 2), (3, 3)):
            for numbers in ((256, -256, 4096), (-256, 256, 256), (-256, -256, 1), (3, 5, 700), (0, -1, 4095)):
                check_against_model(self, [(OPEN, a, b), (NOISE, 5, 1, 2, 50000), (TURN, 9000, 9000),
                                           (BOX, 1, 1, 3, 2, 0, 30003, 65535, 12), (LIGHT, *numbers)])


if __name__ == "__main__":
    unittest.main()
