"""The call noise. The values of single points of the lattice were worked out apart from the program."""

import unittest

from glowtiles.noise import eased, noise_picture
from helper import FLAT, NOISE, OPEN, channel, check_against_model, play


def noise(size, *numbers):
    return play([(OPEN, *size), (NOISE, *numbers)])[0]


class Values(unittest.TestCase):
    def test_one_layer_with_a_point_at_each_pixel(self):
        # A(0) = 65535 takes 1 from each point that is not 0.
        self.assertEqual(channel(noise((2, 2), 0, 0, 1, 0)), [
            [0, 715, 17461, 53340],
            [34226, 64781, 38978, 10309],
            [55146, 58545, 23546, 43514],
            [13185, 5486, 13734, 54750]])
        self.assertEqual(channel(noise((2, 2), 1, 0, 1, 0))[:2], [
            [2741, 14006, 35033, 16016],
            [46364, 32484, 51544, 31336]])

    def test_between_the_points_and_over_the_edges(self):
        # The points are 40375 30130, 14789 23208, 45071 36709, 10790 20060.
        rows = channel(noise((2, 3), 65535, 1, 1, 65535))
        self.assertEqual(rows[0], [40374, 35251, 30129, 35251])
        self.assertEqual(rows[1], [27581, 27124, 26668, 27124])
        self.assertEqual(rows[2], [14788, 18997, 23207, 18997])
        self.assertEqual(rows[7], [25581, 25337, 25094, 25337])

    def test_between_far_points(self):
        # The points are 45321 and 25996; S(16384) = 10240, S(32768) = 32768, S(49152) = 55296.
        self.assertEqual([eased(part) for part in (0, 16384, 32768, 49152)], [0, 10240, 32768, 55296])
        # 63504 * 67584 / 65536 = 65488.5; 65534 * 65538 / 65536 is just below 65536.
        self.assertEqual((eased(64512), eased(65535)), (65488, 65535))
        self.assertEqual(channel(noise((2, 3), 9, 2, 1, 0)),
                         [[value] * 4 for value in (45320, 42300, 35657, 29014, 25995, 29014, 35657, 42300)])

    def test_a_lattice_of_one_point(self):
        self.assertEqual(channel(noise((2, 2), 1, 2, 1, 0)), [[2741] * 4] * 4)

    def test_two_layers(self):
        # A(1) = 32767; the points of layer 1 are 27459 38600 45208 14917.
        self.assertEqual(channel(noise((2, 3), 65535, 1, 2, 32768))[0],
                         [40374 + 13729, 35251 + 19299, 30129 + 22603, 35251 + 7458])

    def test_the_sum_is_at_most_65535(self):
        # A(1) = 65534; the row of layer 1 below begins with 9182.
        rows = channel(noise((2, 3), 65535, 1, 2, 65535))
        self.assertEqual(rows[0], [65535, 65535, 65535, 35251 + 14916])
        self.assertEqual(rows[1][0], 27581 + 9181)

    def test_without_fall_there_is_but_one_layer(self):
        self.assertEqual(channel(noise((3, 2), 65535, 2, 7, 0)), channel(noise((3, 2), 65535, 2, 1, 0)))

    def test_layers_beyond_cell_do_not_count(self):
        for cell in (0, 1, 2):
            enough = channel(noise((2, 3), 12345, cell, cell + 1, 50000))
            for layers in range(cell + 2, 8):
                self.assertEqual(channel(noise((2, 3), 12345, cell, layers, 50000)), enough)
            if cell:
                self.assertNotEqual(channel(noise((2, 3), 12345, cell, cell, 50000)), enough)

    def test_grey_without_transparency(self):
        state = noise((3, 4), 77, 3, 4, 40000)
        self.assertEqual(channel(state, 1), channel(state, 0))
        self.assertEqual(channel(state, 2), channel(state, 0))
        self.assertEqual(channel(state, 3), [[65535] * 8] * 16)

    def test_it_is_pushed(self):
        state, given = play([(OPEN, 2, 2), (FLAT, 1, 2, 3, 4), (NOISE, 0, 0, 1, 0)])
        self.assertEqual(given[-1], [2])
        self.assertEqual((channel(state)[0][1], channel(state, 0, 1)[0][1]), (715, 1))

    def test_against_the_model(self):
        for a, b in ((2, 4), (4, 3), (3, 3)):
            for numbers in ((0, 0, 7, 65535), (65535, 2, 3, 65535), (40000, 1, 7, 30000), (321, min(a, b), 7, 65535),
                            (9, min(a, b), 2, 1), (5, 2, 1, 65535)):
                check_against_model(self, [(OPEN, a, b), (NOISE, *numbers)])

    def test_the_greatest_picture_against_the_model(self):
        check_against_model(self, [(OPEN, 6, 6), (NOISE, 51966, 6, 7, 60000)])
        check_against_model(self, [(OPEN, 6, 5), (NOISE, 51966, 5, 7, 40000)])


class Requirement8(unittest.TestCase):
    def test_all_values_are_from_0_to_65535(self):
        for seed in (0, 1, 40000, 65535):
            for fall in (0, 30000, 65535):
                for plane in noise_picture(16, 8, seed, 3, 7, fall):
                    self.assertTrue(0 <= min(plane) and max(plane) <= 65535)

    def test_the_weight_of_a_layer_is_never_greater_than_that_of_the_one_before(self):
        # With each further layer a pixel can grow by at most A(o), which each fall leaves at A(o - 1) or less.
        for fall in (0, 1, 32768, 65534, 65535):
            sums = [noise_picture(16, 16, 4242, 4, layers, fall)[0] for layers in range(1, 6)]
            weight = 65535
            for before, after in zip(sums, sums[1:]):
                weight = weight * fall // 65536
                for less, more in zip(before, after):
                    self.assertTrue(less <= more <= less + weight)


if __name__ == "__main__":
    unittest.main()
