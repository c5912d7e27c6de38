"""The call join with its eight modes, and the rounding to the nearest integer."""

import unittest

from glowtiles.rounding import rounded_quotient
from helper import FLAT, JOIN, NOISE, OPEN, TURN, channel, check_against_model, pixel, play, put_top

VALUES = (0, 1, 2, 255, 32767, 32768, 40000, 65534, 65535)


def joined(mode, second, top):
    state, given = play([(OPEN, 2, 2), (FLAT, *second), (FLAT, *top), (JOIN, mode)])
    assert given == [[0], [1], [2], [1]]
    return pixel(state, 3, 2)


def single(mode, b, t, k):
    """The value of one colour channel, k being the alpha channel of the top."""
    return joined(mode, (b, 0, 0, 0), (t, 0, 0, k))[0]


class Rounding(unittest.TestCase):
    def test_to_the_nearest_and_from_the_middle_to_the_greater(self):
        cases = ((0, 2, 0), (1, 2, 1), (3, 2, 2), (-1, 2, 0), (-3, 2, -1), (4, 3, 1), (5, 3, 2), (-4, 3, -1),
                 (-5, 3, -2), (7, 4, 2), (5, 4, 1), (6, 4, 2), (32767, 65535, 0), (32768, 65535, 1))
        for a, b, quotient in cases:
            self.assertEqual(rounded_quotient(a, b), quotient, (a, b))


class Modes(unittest.TestCase):
    second = (1000, 65535, 0, 40000)
    top = (300, 1, 65535, 20000)

    def test_0_the_sum(self):
        self.assertEqual(joined(0, self.second, self.top), [1300, 65535, 65535, 60000])

    def test_1_the_second_less_the_top(self):
        self.assertEqual(joined(1, self.second, self.top), [700, 65534, 0, 20000])
        self.assertEqual(joined(1, self.top, self.second), [0, 0, 65535, 0])

    def test_2_the_product(self):
        # 1000 * 300 / 65535 = 4.58; 40000 * 20000 / 65535 = 12207.22
        self.assertEqual(joined(2, self.second, self.top), [5, 1, 0, 12207])
        # 32767 * 1 / 65535 is just below a half, 32768 * 1 / 65535 just above.
        self.assertEqual(joined(2, (32767, 32768, 65535, 0), (1, 1, 65535, 0)), [0, 1, 65535, 0])

    def test_3_the_greater(self):
        self.assertEqual(joined(3, self.second, self.top), [1000, 65535, 65535, 40000])

    def test_4_the_smaller(self):
        self.assertEqual(joined(4, self.second, self.top), [300, 1, 0, 20000])

    def test_5_the_middle(self):
        self.assertEqual(joined(5, self.second, self.top), [650, 32768, 32768, 30000])
        self.assertEqual(joined(5, (2, 3, 0, 65535), (3, 3, 1, 65534)), [3, 3, 1, 65535])

    def test_6_the_top_over_the_second(self):
        self.assertEqual(joined(6, (65535, 0, 0, 65535), (0, 65535, 0, 32768)), [32767, 32768, 0, 49151])
        # (1000 * 45535 + 300 * 20000) / 65535 = 786.37; (40000 * 45535 + 20000 * 20000) / 65535 = 33896.39
        self.assertEqual(joined(6, self.second, self.top), [786, 45535, 20000, 33896])
        # The alpha channel of the second picture is not asked: it is 7, and 10 * 32767 / 65535 is just below 5.
        # (7 * 32767 + 32768 * 32768) / 65535 = 16387.75
        self.assertEqual(joined(6, (0, 10, 1, 7), (10, 0, 0, 32768)), [5, 5, 0, 16388])

    def test_7_the_difference(self):
        self.assertEqual(joined(7, self.second, self.top), [700, 65534, 65535, 20000])
        self.assertEqual(joined(7, self.top, self.second), [700, 65534, 65535, 20000])

    def test_the_two_topmost_are_replaced_by_one(self):
        state, given = play([(OPEN, 2, 3), (FLAT, 1, 1, 1, 1), (FLAT, 20, 20, 20, 20), (FLAT, 300, 300, 300, 300),
                             (JOIN, 0), (JOIN, 1)])
        self.assertEqual(given[-2:], [[2], [1]])
        self.assertEqual(state.pictures, [[[0] * 32] * 4])

    def test_each_pixel_by_itself(self):
        state = play([(OPEN, 2, 2)])[0]
        put_top(state, [[[1000 * y + x for x in range(4)] for y in range(4)]] * 4)
        put_top(state, [[[100 * x for x in range(4)] for y in range(4)]] * 3 + [[[65535, 0, 65535, 0]] * 4])
        play([(JOIN, 6)], state)
        self.assertEqual(channel(state), [[0, 1000 * y + 1, 200, 1000 * y + 3] for y in range(4)])
        self.assertEqual(channel(state, 3)[1], [65535, 1001, 65535, 1003])

    def test_against_the_model(self):
        for mode in range(8):
            # Noise alone has no transparency: a join takes the alpha values from a flat picture.
            check_against_model(self, [(OPEN, 3, 2), (NOISE, 1, 1, 2, 50000), (NOISE, 2, 2, 3, 50000),
                                       (FLAT, 9000, 70, 65535, 30000), (JOIN, 7), (TURN, 9000, 9000), (JOIN, mode)])


class Requirement6(unittest.TestCase):
    def test_mode_6_lies_between_and_reaches_both(self):
        for b in VALUES:
            for t in VALUES:
                self.assertEqual((single(6, b, t, 65535), single(6, b, t, 0)), (t, b))
                for k in VALUES:
                    self.assertTrue(min(b, t) <= single(6, b, t, k) <= max(b, t), (b, t, k))

    def test_mode_2_with_all_and_with_nothing(self):
        for b in VALUES:
            self.assertEqual((single(2, b, 65535, 0), single(2, b, 0, 0)), (b, 0))
            self.assertEqual((single(2, 65535, b, 0), single(2, 0, b, 0)), (b, 0))

    def test_mode_5_with_itself(self):
        for b in VALUES:
            self.assertEqual(single(5, b, b, 0), b)

    def test_modes_3_4_and_7(self):
        for b in VALUES:
            for t in VALUES:
                most, least = single(3, b, t, 0), single(4, b, t, 0)
                self.assertEqual((most + least, most - least), (b + t, single(7, b, t, 0)))


if __name__ == "__main__":
    unittest.main()
