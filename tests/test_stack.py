"""The calls copy, swap, drop and pixel, and that a call leaves alone the pictures that it does not change."""

import unittest

from helper import (BEND, BLUR, BOX, COLOUR, COPY, DROP, FLAT, GLOW, GOOD, JOIN, LEVELS, LIGHT, NOISE, OPEN, PIXEL,
                    READ_BYTES, READ_WORDS, SWAP, TURN, ask, colours, everything, first_number, painted, whole)

SMALL = (OPEN, 2, 2)
ROWS = [[(1000 * x + 10 * y, 200 * y, 65535 - x, 40000 + x * y) for x in range(4)] for y in range(4)]
PAINTED = painted(ROWS)
# Calls that change the top alone; each of them changes PAINTED.
CHANGES = [(GLOW, 1, 2, 5, 6, 1, 3000, 3000, 3000, 3000), (BOX, 0, 0, 4, 3, 5, 6, 7, 8), (BLUR, 1, 1, 1),
           (TURN, 0, 16384), (LEVELS, 500, 2500), (COLOUR, 0, 256, 0, 0, 0, 0, 256, 0, 256, 0, 0, 0),
           (LIGHT, 256, 256, 256)]


def flats(*values):
    """The calls that open a stack and push flat pictures with these as channel 0."""
    return [SMALL] + [(FLAT, value, 0, 0, 0) for value in values]


def order(calls):
    """Channel 0 of the first pixel of each picture after the calls, the top first."""
    return [picture[0][0][0] for picture in everything(calls)[0]]


class Copy(unittest.TestCase):
    def test_of_the_top(self):
        calls = [SMALL] + PAINTED + [(COPY, 0)]
        self.assertEqual(ask(calls)[-1], [2])
        self.assertEqual(everything(calls)[0], [ROWS, ROWS])

    def test_of_deeper_pictures(self):
        before = flats(1, 2, 3, 4, 5, 6, 7)
        for k, value in enumerate((7, 6, 5, 4, 3, 2, 1)):
            self.assertEqual(ask(before + [(COPY, k)])[-1], [8])
            self.assertEqual(order(before + [(COPY, k)]), [value, 7, 6, 5, 4, 3, 2, 1])

    def test_the_deepest_picture(self):
        for count in range(1, 8):
            calls = flats(*range(1, count + 1)) + [(COPY, count - 1)]
            self.assertEqual(order(calls), [1] + list(range(count, 0, -1)))

    def test_one_too_great_and_negative(self):
        for count in range(1, 8):
            for k in (count, -1):
                calls = flats(*range(1, count + 1)) + [(COPY, k)]
                self.assertEqual((ask(calls)[-1], order(calls)), ([-2], list(range(count, 0, -1))))

    def test_eight_pictures(self):
        before = flats(1, 2, 3, 4, 5, 6, 7, 8)
        for k, code in ((0, -5), (7, -5), (8, -2), (-1, -2)):
            calls = before + [(COPY, k)]
            self.assertEqual((ask(calls)[-1], order(calls)), ([code], [8, 7, 6, 5, 4, 3, 2, 1]))

    def test_of_a_copy(self):
        self.assertEqual(order(flats(1, 2) + [(COPY, 1), (COPY, 0), (COPY, 2), (COPY, 3)]), [2, 2, 1, 1, 2, 1])
        self.assertEqual(order(flats(1, 2) + [(COPY, 1), (COPY, 0), (COPY, 2), (COPY, 4)]), [1, 2, 1, 1, 2, 1])

    def test_the_original_stays_when_the_copy_is_changed(self):
        for change in CHANGES:
            with self.subTest(change=change):
                changed = whole([SMALL] + PAINTED + [change])
                self.assertNotEqual(changed, ROWS)
                self.assertEqual(everything([SMALL] + PAINTED + [(COPY, 0), change])[0], [changed, ROWS])
                self.assertEqual(everything([SMALL] + PAINTED + [(FLAT, 1, 2, 3, 4), (COPY, 1), change])[0],
                                 [changed, [[(1, 2, 3, 4)] * 4] * 4, ROWS])

    def test_the_copy_stays_when_the_original_is_changed(self):
        for change in CHANGES:
            with self.subTest(change=change):
                changed = whole([SMALL] + PAINTED + [change])
                calls = [SMALL] + PAINTED + [(FLAT, 1, 2, 3, 4), (COPY, 1), (SWAP,), (DROP,), (SWAP,), change]
                self.assertEqual(everything(calls)[0], [changed, ROWS])

    def test_both_stay_when_two_pictures_are_made_one(self):
        for change in ((JOIN, 0), (JOIN, 5), (BEND, 3000)):
            with self.subTest(change=change):
                changed = whole([SMALL] + PAINTED + [(FLAT, 1, 2, 3, 4), change])
                self.assertNotEqual(changed, ROWS)
                calls = [SMALL] + PAINTED + [(COPY, 0), (FLAT, 1, 2, 3, 4), change]
                self.assertEqual(everything(calls)[0], [changed, ROWS])
                calls = [SMALL] + PAINTED + [(COPY, 0), (COPY, 0), change]
                self.assertEqual(everything(calls)[0][1], ROWS)

    def test_a_copy_outlives_its_original(self):
        calls = [SMALL] + PAINTED + [(COPY, 0), (SWAP,), (DROP,)]
        self.assertEqual(everything(calls)[0], [ROWS])


class Swap(unittest.TestCase):
    def test_two_pictures(self):
        calls = flats(1, 2) + [(SWAP,)]
        self.assertEqual(ask(calls)[-1], [2])
        self.assertEqual(order(calls), [1, 2])

    def test_only_the_two_topmost(self):
        calls = flats(1, 2, 3, 4) + [(SWAP,)]
        self.assertEqual(ask(calls)[-1], [4])
        self.assertEqual(order(calls), [3, 4, 2, 1])

    def test_eight_pictures(self):
        calls = flats(1, 2, 3, 4, 5, 6, 7, 8) + [(SWAP,)]
        self.assertEqual(ask(calls)[-1], [8])
        self.assertEqual(order(calls), [7, 8, 6, 5, 4, 3, 2, 1])

    def test_twice(self):
        self.assertEqual(order(flats(1, 2, 3) + [(SWAP,), (SWAP,)]), [3, 2, 1])

    def test_whole_pictures(self):
        calls = [SMALL] + PAINTED + [(FLAT, 1, 2, 3, 4), (SWAP,)]
        self.assertEqual(everything(calls)[0], [ROWS, [[(1, 2, 3, 4)] * 4] * 4])

    def test_none_or_one(self):
        self.assertEqual(ask([SMALL, (SWAP,)])[-1], [-4])
        self.assertEqual((ask(flats(1) + [(SWAP,)])[-1], order(flats(1) + [(SWAP,)])), ([-4], [1]))


class Drop(unittest.TestCase):
    def test_one_after_the_other(self):
        calls = flats(1, 2, 3, 4, 5, 6, 7, 8) + [(DROP,)] * 9
        self.assertEqual(ask(calls)[9:], [[7], [6], [5], [4], [3], [2], [1], [0], [-4]])

    def test_the_top_is_removed(self):
        self.assertEqual(order(flats(1, 2, 3) + [(DROP,)]), [2, 1])
        self.assertEqual(order(flats(1, 2, 3) + [(DROP,), (FLAT, 9, 0, 0, 0)]), [9, 2, 1])

    def test_an_emptied_stack_keeps_its_size(self):
        calls = [(OPEN, 3, 2), (FLAT, 1, 2, 3, 4), (DROP,), (FLAT, 5, 6, 7, 8)]
        self.assertEqual(ask(calls), [[0], [1], [0], [1]])
        self.assertEqual(whole(calls), [[(5, 6, 7, 8)] * 8] * 4)


class Pixel(unittest.TestCase):
    def test_0_and_the_four_channels(self):
        self.assertEqual(ask([SMALL, (FLAT, 0, 65535, 1, 40000), (PIXEL, 2, 1)])[-1], [0, 0, 65535, 1, 40000])

    def test_0_stands_ahead_however_many_pictures_there_are(self):
        self.assertEqual(ask(flats(1, 2, 3) + [(PIXEL, 0, 0)])[-1], [0, 3, 0, 0, 0])

    def test_x_goes_across_and_y_down(self):
        for a, b in ((2, 3), (3, 2), (6, 2), (2, 6), (6, 6)):
            w, h = 2 ** a, 2 ** b
            for x, y in ((0, 0), (w - 1, 0), (0, h - 1), (w - 1, h - 1), (1, 2), (3, 1), (w - 2, h - 3)):
                calls = [(OPEN, a, b), (FLAT, 1, 2, 3, 4), (BOX, x, y, 1, 1, 50, 60, 70, 80)]
                around = [((x + 1) % w, y), ((x - 1) % w, y), (x, (y + 1) % h), (x, (y - 1) % h)]
                self.assertEqual(colours(calls, [(x, y)] + around), [(50, 60, 70, 80)] + [(1, 2, 3, 4)] * 4)

    def test_one_beyond_the_last_column_and_the_last_row(self):
        for a, b in ((2, 3), (3, 2), (6, 2), (2, 6)):
            w, h = 2 ** a, 2 ** b
            told = ask([(OPEN, a, b), (FLAT, 1, 2, 3, 4), (PIXEL, w - 1, h - 1), (PIXEL, w, 0), (PIXEL, 0, h),
                        (PIXEL, -1, 0), (PIXEL, 0, -1)])
            self.assertEqual(told[2:], [[0, 1, 2, 3, 4], [-2], [-2], [-2], [-2]])

    def test_of_the_top_alone_and_nothing_is_changed(self):
        calls = [SMALL, (FLAT, 1, 2, 3, 4)] + PAINTED
        self.assertEqual(whole(calls), ROWS)
        reading = [(PIXEL, 0, 0), (PIXEL, 3, 3), (PIXEL, 4, 0), (READ_BYTES,), (READ_WORDS,)]
        self.assertEqual(everything(calls + reading), everything(calls))


class PicturesBelow(unittest.TestCase):
    def test_a_picture_below_stays_where_the_top_is_changed(self):
        below = [[(1, 2, 3, 4)] * 4] * 4
        for change in CHANGES:
            calls = [SMALL, (FLAT, 1, 2, 3, 4)] + PAINTED + [change]
            self.assertEqual(ask(calls)[-1], [2])
            self.assertEqual(everything(calls)[0], [whole([SMALL] + PAINTED + [change]), below])

    def test_two_pictures_below_stay_where_others_are_taken(self):
        before = [SMALL] + PAINTED + [(FLAT, 1, 2, 3, 4), (NOISE, 3, 1, 2, 40000), (NOISE, 8, 2, 3, 50000)]
        below = [[[(1, 2, 3, 4)] * 4] * 4, ROWS]
        for call, numbers in GOOD.items():
            if call != OPEN:
                calls = before + [(call, *numbers)]
                self.assertEqual(ask(calls)[-1][0], first_number(call, 4, 16), call)
                self.assertEqual(everything(calls)[0][-2:], below, call)


if __name__ == "__main__":
    unittest.main()
