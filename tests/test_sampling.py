"""The calls turn and bend, and the sampling that both use."""

import unittest

from glowtiles.sampling import sampled_picture
from helper import BEND, FLAT, NOISE, OPEN, TURN, channel, check_against_model, pixel, play, put_top, seen

# 4 wide, 8 high: the first digit is the row, the second the column.
GRID = [[1000 * y + 100 * x for x in range(4)] for y in range(8)]
SQUARE = [[1000 * y + 100 * x for x in range(4)] for y in range(4)]


def gridded(rows, *calls):
    """The state whose top, at first, has the rows as each of its channels."""
    state = play([(OPEN, len(rows[0]).bit_length() - 1, len(rows).bit_length() - 1)])[0]
    put_top(state, [rows] * 4)
    return state, play(calls, state)[1]


class Sampling(unittest.TestCase):
    def sample(self, x, y):
        plane = [value for row in GRID for value in row]
        return sampled_picture([plane] * 4, 4, 8, [(x, y)])

    def test_at_a_pixel(self):
        for x, y, value in ((0, 0, 0), (256, 0, 100), (0, 256, 1000), (768, 1792, 7300)):
            self.assertEqual(self.sample(x, y), [[value]] * 4)

    def test_between_pixels(self):
        self.assertEqual(self.sample(128, 0), [[50]] * 4)
        self.assertEqual(self.sample(0, 64), [[250]] * 4)
        self.assertEqual(self.sample(256 + 64, 512 + 192), [[2875]] * 4)

    def test_rounded_down(self):
        # 100 * 255 / 256 = 99.6; 100 * 1 / 256 = 0.4
        self.assertEqual((self.sample(255, 0)[0], self.sample(1, 0)[0]), ([99], [0]))

    def test_over_the_edges(self):
        # Half way from column 3 to column 0, and from row 7 to row 0.
        self.assertEqual(self.sample(768 + 128, 0)[0], [150])
        self.assertEqual(self.sample(0, 1792 + 128)[0], [3500])
        self.assertEqual(self.sample(768 + 128, 1792 + 128)[0], [3650])

    def test_outside_and_negative(self):
        for x, y in ((300, 700), (5, 2000), (1000, 3)):
            for across in (-3, -1, 1, 40):
                for down in (-2, -1, 1, 30):
                    self.assertEqual(self.sample(x + 1024 * across, y + 2048 * down), self.sample(x, y))
        # A quarter of a pixel left of column 0 is three quarters of the way from column 3 to it.
        self.assertEqual(self.sample(-64, 0)[0], [75])
        self.assertEqual(self.sample(0, -64)[0], [1750])


class Turn(unittest.TestCase):
    def test_by_nothing(self):
        for rows in (GRID, SQUARE):
            state, given = gridded(rows, (TURN, 16384, 0))
            self.assertEqual((channel(state), given), (rows, [[1]]))

    def test_by_a_quarter(self):
        # The pixel (x, y) comes from (4 - y, x).
        state = gridded(SQUARE, (TURN, 0, 16384))[0]
        self.assertEqual(channel(state), [[1000 * x + 100 * (-y % 4) for x in range(4)] for y in range(4)])

    def test_by_a_half(self):
        state = gridded(GRID, (TURN, -16384, 0))[0]
        self.assertEqual(channel(state), [[1000 * (-y % 8) + 100 * (-x % 4) for x in range(4)] for y in range(8)])

    def test_by_a_quarter_where_width_and_height_differ(self):
        # u = x - 2 and v = y - 4: the pixel comes from (2 - v, 4 + u) = (6 - y, 2 + x).
        state = gridded(GRID, (TURN, 0, 16384))[0]
        self.assertEqual(channel(state), [[1000 * ((2 + x) % 8) + 100 * ((6 - y) % 4) for x in range(4)]
                                          for y in range(8)])

    def test_made_wider(self):
        # With half of c the pixels come from 256 + 128 * x: columns 1, 1.5, 2 and 2.5; rows 2, 2.5 and so on.
        state = gridded(GRID, (TURN, 8192, 0))[0]
        self.assertEqual(channel(state), [[2000 + 500 * y + 100 + 50 * x for x in range(4)] for y in range(8)])

    def test_places_are_rounded_down(self):
        # c = 100: u = -1 gives -100 / 64 = -2, u = -2 gives -4, u = 1 gives 1; the middle is at 512.
        state = gridded([[0, 25600, 51200, 0]] * 4, (TURN, 100, 0))[0]
        self.assertEqual(channel(state)[2], [50800, 51000, 51200, 51000])
        # s = 1: v * s is taken away ahead of the division, so -1 / 64 is -1 and 1 / 64 is 0.
        state = gridded([[0, 25600, 51200, 0]] * 4, (TURN, 0, 1))[0]
        self.assertEqual([row[2] for row in channel(state)], [51200, 51200, 51200, 51100])

    def test_nothing_but_the_middle(self):
        state = gridded(GRID, (TURN, 0, 0))[0]
        self.assertEqual(channel(state), [[4200] * 4] * 8)

    def test_only_the_top_and_each_channel_by_itself(self):
        state = play([(OPEN, 2, 2)])[0]
        below = [[[7 * x + y + c for x in range(4)] for y in range(4)] for c in range(4)]
        put_top(state, below)
        put_top(state, [[[x + 10 * y + 100 * c for x in range(4)] for y in range(4)] for c in range(4)])
        self.assertEqual(play([(TURN, 0, 16384)], state)[1], [[2]])
        self.assertEqual(pixel(state, 1, 3), [11, 111, 211, 311])
        self.assertEqual([channel(state, c, 1) for c in range(4)], below)

    def test_against_the_model(self):
        for a, b in ((2, 4), (4, 2), (3, 3)):
            for numbers in ((65536, -65536), (-65536, 65536), (0, 0), (11585, 11585), (-1, 1), (1, -1), (-777, 20000)):
                check_against_model(self, [(OPEN, a, b), (NOISE, 8, 1, 2, 50000), (TURN, *numbers)])


class Bend(unittest.TestCase):
    def bent(self, n, a, b):
        state, given = gridded(GRID, (FLAT, a, b, 12345, 54321), (BEND, n))
        self.assertEqual(given, [[2], [1]])
        return channel(state)

    def test_the_top_is_removed_and_the_second_picture_changed(self):
        state, given = gridded(GRID, (FLAT, 9, 9, 9, 9), (FLAT, 0, 32768, 0, 0), (BEND, 256))
        self.assertEqual(given, [[2], [3], [2]])
        self.assertEqual(len(state.pictures), 2)
        self.assertEqual((pixel(state, 0, 0), channel(state, 0, 1)), ([9] * 4, GRID))

    def test_channel_0_moves_across_and_channel_1_down(self):
        # 0 stands for -n: with 256 one pixel to the left, or up.
        self.assertEqual(self.bent(256, 0, 32768), [[row[3], row[0], row[1], row[2]] for row in GRID])
        self.assertEqual(self.bent(256, 32768, 0), [GRID[7]] + GRID[:7])
        self.assertEqual(self.bent(-256, 0, 32768), [[row[1], row[2], row[3], row[0]] for row in GRID])
        self.assertEqual(self.bent(-256, 32768, 0), GRID[1:] + [GRID[0]])

    def test_half_a_pixel(self):
        self.assertEqual(self.bent(256, 49152, 32768)[0], [50, 150, 250, 150])
        self.assertEqual(self.bent(256, 32768, 16384)[0], [3500, 3600, 3700, 3800])

    def test_places_are_rounded_down(self):
        # (32767 - 32768) * 1 / 32768 = -1, so that column 1 is taken at 255; but (32769 - 32768) * 1 / 32768 = 0.
        self.assertEqual(self.bent(1, 32767, 32768)[0][1:], [99, 199, 299])
        self.assertEqual(self.bent(1, 32769, 32768)[0], GRID[0])
        self.assertEqual(self.bent(1, 32768, 32769), GRID)
        # (65535 - 32768) * 8192 / 32768 = 8191, 1/256 of a pixel short of 32 pixels.
        self.assertEqual(self.bent(8192, 65535, 32768)[0][1:], [99, 199, 299])
        self.assertEqual(self.bent(8192, 0, 0), GRID)

    def test_no_strength(self):
        self.assertEqual(self.bent(0, 0, 65535), GRID)

    def test_each_pixel_has_its_own_place(self):
        state = gridded(SQUARE)[0]
        across = [[32768 + 128 * x for x in range(4)]] * 4
        down = [[32768 - 128 * y] * 4 for y in range(4)]
        put_top(state, [across, down, SQUARE, SQUARE])
        play([(BEND, 8192)], state)
        # A step of 128 is 32/256 of a pixel.
        self.assertEqual(channel(state)[0], [0, 112, 225, 187])
        self.assertEqual([row[0] for row in channel(state)], [0, 875, 1750, 2625])

    def test_each_channel_by_itself(self):
        state = play([(OPEN, 2, 2)])[0]
        put_top(state, [[[x + 10 * y + 100 * c for x in range(4)] for y in range(4)] for c in range(4)])
        play([(FLAT, 0, 32768, 65535, 65535), (BEND, 256)], state)
        self.assertEqual(pixel(state, 2, 3), [31, 131, 231, 331])

    def test_against_the_model(self):
        for a, b in ((2, 4), (4, 2), (3, 3)):
            for n in (-8192, -300, -1, 0, 1, 777, 8192):
                check_against_model(self, [(OPEN, a, b), (NOISE, 8, 1, 2, 50000), (NOISE, 9, 2, 3, 40000), (BEND, n)])


class Requirements(unittest.TestCase):
    def test_4_turning_by_nothing(self):
        for a, b in ((2, 2), (2, 4), (5, 3), (6, 6)):
            state = play([(OPEN, a, b), (NOISE, 8, 1, 2, 50000)])[0]
            before = seen(state)
            play([(TURN, 16384, 0)], state)
            self.assertEqual(seen(state), before)

    def test_4_turning_a_square_by_four_quarters(self):
        for size in (2, 3, 6):
            state = play([(OPEN, size, size), (NOISE, 8, 1, 2, 50000)])[0]
            before = seen(state)
            play([(TURN, 0, 16384)], state)
            self.assertNotEqual(seen(state), before)
            play([(TURN, 0, 16384)] * 3, state)
            self.assertEqual(seen(state), before)

    def test_5_bending_by_the_middle_grey(self):
        for a, b in ((2, 2), (2, 4), (5, 3)):
            for n in (-8192, -1, 0, 1, 5000, 8192):
                state = play([(OPEN, a, b), (NOISE, 8, 1, 2, 50000)])[0]
                before = seen(state)
                play([(FLAT, 32768, 32768, 0, 0), (BEND, n)], state)
                self.assertEqual(seen(state), before)


if __name__ == "__main__":
    unittest.main()
