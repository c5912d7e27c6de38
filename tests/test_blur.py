"""The call blur."""

import unittest

from helper import BLUR, BOX, FLAT, NOISE, OPEN, channel, check_against_model, pixel, play, put_top, seen


def dotted(size, value, *calls):
    """Channel 0 after the calls, where at first only the first pixel is not black."""
    return channel(play([(OPEN, *size), (FLAT, 0, 0, 0, 0), (BOX, 0, 0, 1, 1, value, value, value, value), *calls])[0])


def moved(rows, right, down):
    """The rows moved cyclically."""
    width, height = len(rows[0]), len(rows)
    return [[rows[(y - down) % height][(x - right) % width] for x in range(width)] for y in range(height)]


class Values(unittest.TestCase):
    def test_horizontally_over_the_edge(self):
        self.assertEqual(dotted((2, 3), 900, (BLUR, 1, 0, 1)), [[300, 300, 0, 300]] + [[0] * 4] * 7)

    def test_vertically_over_the_edge(self):
        self.assertEqual(dotted((2, 3), 900, (BLUR, 0, 1, 1)),
                         [[300, 0, 0, 0]] * 2 + [[0] * 4] * 5 + [[300, 0, 0, 0]])

    def test_both_ways(self):
        row = [100, 100, 0, 100]
        self.assertEqual(dotted((2, 3), 900, (BLUR, 1, 1, 1)), [row, row] + [[0] * 4] * 5 + [row])

    def test_no_radius_changes_nothing(self):
        state = play([(OPEN, 3, 2), (NOISE, 9, 1, 2, 40000)])[0]
        before = seen(state)
        self.assertEqual(play([(BLUR, 0, 0, 3)], state)[1], [[1]])
        self.assertEqual(seen(state), before)

    def test_a_radius_wider_than_the_picture(self):
        # Of the 31 places from -15 to 15 seven are the first column again, of those of the other pixels eight.
        self.assertEqual(dotted((2, 3), 3100, (BLUR, 15, 0, 1))[0], [700, 800, 800, 800])
        # From -15 to 15 three places are the first of 8 rows again, and for all others four.
        self.assertEqual([row[0] for row in dotted((2, 3), 3100, (BLUR, 0, 15, 1))],
                         [300, 400, 400, 400, 400, 400, 400, 400])

    def test_each_pass_is_rounded_down(self):
        self.assertEqual(dotted((2, 2), 100, (BLUR, 1, 0, 1))[0], [33, 33, 0, 33])
        self.assertEqual(dotted((2, 2), 100, (BLUR, 1, 0, 2))[0], [33, 22, 22, 22])
        self.assertEqual(dotted((2, 2), 5, (BLUR, 1, 1, 1)), [[0] * 4] * 4)

    def test_horizontally_comes_first(self):
        state = play([(OPEN, 2, 2)])[0]
        put_top(state, [[[2, 1, 0, 0], [1, 2, 0, 0], [2, 1, 0, 0], [0, 0, 0, 0]]] * 4)
        play([(BLUR, 1, 1, 1)], state)
        # Across: 1 1 0 0 in each of the three rows; down: these stay in the middle one alone.
        # Down first, the columns would be 1 1 1 1 and 1 1 1 0, and nothing would be left of them across.
        self.assertEqual(channel(state), [[0] * 4, [1, 1, 0, 0], [0] * 4, [0] * 4])

    def test_several_times(self):
        for n in (2, 3):
            self.assertEqual(dotted((3, 2), 65535, (BLUR, 2, 1, n)), dotted((3, 2), 65535, *[(BLUR, 2, 1, 1)] * n))

    def test_each_channel_by_itself_and_only_in_the_top(self):
        calls = [(OPEN, 2, 2), (FLAT, 7, 7, 7, 7), (FLAT, 0, 0, 0, 0), (BOX, 0, 0, 1, 1, 300, 0, 65535, 6),
                 (BLUR, 1, 0, 1)]
        state, given = play(calls)
        self.assertEqual(given[-1], [2])
        self.assertEqual(pixel(state, 3, 0), [100, 0, 21845, 2])
        self.assertEqual(pixel(state, 3, 0, 1), [7, 7, 7, 7])

    def test_against_the_model(self):
        for a, b in ((2, 4), (4, 2), (3, 3)):
            for numbers in ((15, 15, 3), (15, 0, 1), (0, 15, 2), (1, 4, 2), (7, 2, 3), (3, 8, 1)):
                check_against_model(self, [(OPEN, a, b), (NOISE, 70, 1, 2, 50000), (BLUR, *numbers)])


class Requirements(unittest.TestCase):
    def test_2_a_moved_picture_gives_the_blurred_picture_moved(self):
        plain = play([(OPEN, 3, 4), (NOISE, 70, 1, 2, 50000)])[0]
        rows = channel(plain)
        for numbers in ((1, 2, 1), (15, 15, 3), (4, 0, 2), (0, 9, 1)):
            blurred = play([(OPEN, 3, 4), (NOISE, 70, 1, 2, 50000), (BLUR, *numbers)])[0]
            for right, down in ((1, 0), (0, 1), (5, 11), (7, 15)):
                state = play([(OPEN, 3, 4)])[0]
                put_top(state, [moved(rows, right, down)] * 4)
                play([(BLUR, *numbers)], state)
                self.assertEqual(channel(state), moved(channel(blurred), right, down))

    def test_3_no_value_leaves_the_range_of_the_picture(self):
        for low, high in ((0, 65535), (65534, 65535), (0, 1), (300, 310), (777, 777)):
            state = play([(OPEN, 2, 3), (FLAT, low, low, low, low), (BOX, 3, 6, 2, 5, high, high, high, high)])[0]
            for numbers in ((1, 1, 1), (15, 15, 3), (0, 3, 2), (2, 0, 3)):
                play([(BLUR, *numbers)], state)
                for plane in state.pictures[0]:
                    self.assertTrue(low <= min(plane) and max(plane) <= high)

    def test_3_a_flat_picture_stays(self):
        for value in (0, 1, 65535):
            state = play([(OPEN, 2, 2), (FLAT, value, value, value, value), (BLUR, 15, 14, 3)])[0]
            self.assertEqual(state.pictures[0], [[value] * 16] * 4)


if __name__ == "__main__":
    unittest.main()
