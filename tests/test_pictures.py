"""The calls open, flat, glow and box, the order of the stack, and all the calls one behind another."""

import random
import unittest

from helper import (BEND, BLUR, BOX, COLOUR, COPY, DROP, FLAT, GLOW, JOIN, LEVELS, LIGHT, NOISE, OPEN, PIXEL, RANGES,
                    READ_BYTES, READ_WORDS, SWAP, TURN, channel, check_against_model, pixel, play, put_top, seen)


class Open(unittest.TestCase):
    def test_sizes(self):
        for a in range(2, 7):
            for b in range(2, 7):
                state, given = play([(OPEN, a, b), (FLAT, 1, 2, 3, 4)])
                self.assertEqual(given, [[0], [1]])
                self.assertEqual((state.width, state.height), (2 ** a, 2 ** b))
                self.assertEqual([len(plane) for plane in state.pictures[0]], [2 ** a * 2 ** b] * 4)

    def test_the_width_comes_first(self):
        state = play([(OPEN, 2, 5)])[0]
        self.assertEqual((state.width, state.height), (4, 32))

    def test_a_new_stack_is_empty(self):
        state, given = play([(OPEN, 2, 2)])
        self.assertEqual((given, state.pictures), ([[0]], []))

    def test_a_second_open_puts_an_empty_stack_in_the_place_of_the_first(self):
        state, given = play([(OPEN, 2, 2), (FLAT, 1, 2, 3, 4), (FLAT, 1, 2, 3, 4), (OPEN, 3, 4), (BLUR, 0, 0, 1)])
        self.assertEqual(given, [[0], [1], [2], [0], [-4]])
        self.assertEqual(seen(state), (8, 16, []))

    def test_the_same_size_again_empties_the_stack_too(self):
        state, given = play([(OPEN, 2, 2), (FLAT, 1, 2, 3, 4), (OPEN, 2, 2), (FLAT, 5, 6, 7, 8)])
        self.assertEqual(given, [[0], [1], [0], [1]])
        self.assertEqual(pixel(state, 0, 0), [5, 6, 7, 8])


class Flat(unittest.TestCase):
    def test_all_pixels_have_the_colour(self):
        state, given = play([(OPEN, 3, 2), (FLAT, 0, 65535, 1, 40000)])
        self.assertEqual(given, [[0], [1]])
        for y in range(4):
            for x in range(8):
                self.assertEqual(pixel(state, x, y), [0, 65535, 1, 40000])

    def test_the_last_one_pushed_is_the_top(self):
        state = play([(OPEN, 2, 2)] + [(FLAT, n, 0, 0, 0) for n in range(1, 9)])[0]
        self.assertEqual([pixel(state, 3, 3, depth)[0] for depth in range(8)], [8, 7, 6, 5, 4, 3, 2, 1])


class Glow(unittest.TestCase):
    def glow(self, size, numbers, under=(0, 0, 0, 0)):
        return play([(OPEN, *size), (FLAT, *under), (GLOW, *numbers)])[0]

    def test_in_the_centre_the_whole_colour_is_added(self):
        state = self.glow((2, 3), (1, 5, 2, 2, 1, 65535, 0, 1, 300), (0, 7, 65534, 200))
        self.assertEqual(pixel(state, 1, 5), [65535, 7, 65535, 500])

    def test_the_sum_is_at_most_65535(self):
        state = self.glow((2, 2), (0, 0, 2, 2, 1, 65535, 2, 40000, 65535), (65535, 65534, 40000, 1))
        self.assertEqual(pixel(state, 0, 0), [65535, 65535, 65535, 65535])

    def test_distances_are_rounded_down_on_both_sides(self):
        # 256 / 3 is 85 and -256 / 3 is -86: the strengths are 65536 - 7225 and 65536 - 7396.
        state = self.glow((2, 2), (2, 0, 3, 3, 1, 65535, 65535, 65535, 65535))
        self.assertEqual([row[3] for row in channel(state)][0], 58310)
        self.assertEqual(channel(state)[0][1], 58139)
        self.assertEqual(channel(state)[1][2], 58310)
        self.assertEqual(channel(state)[3][2], 58139)
        # 65536 - 7225 - 7396 is 50915.
        self.assertEqual((channel(state)[1][1], channel(state)[3][3]), (50914, 50914))

    def test_the_glow_goes_over_the_edges(self):
        state = self.glow((2, 3), (0, 7, 2, 4, 1, 256, 0, 0, 0))
        # Across: 1 pixel is 128, 2 are 256; down: 1 is 64, 2 are 128, 3 are 192.
        self.assertEqual(channel(state)[7], [256, 192, 0, 192])
        self.assertEqual(channel(state)[0], [240, 176, 0, 176])
        self.assertEqual(channel(state)[6], [240, 176, 0, 176])
        self.assertEqual(channel(state)[1], [192, 128, 0, 128])
        self.assertEqual(channel(state)[2], [112, 48, 0, 48])
        self.assertEqual(channel(state)[3], [0, 0, 0, 0])
        self.assertEqual(channel(state)[4], [112, 48, 0, 48])

    def test_at_the_radius_nothing_is_added(self):
        # Two pixels away, 512 / 3 is 170 and -512 / 3 is -171: 65536 - 28900 and 65536 - 29241; at three it is 0.
        state = self.glow((3, 3), (4, 4, 3, 255, 1, 65535, 0, 0, 0))
        self.assertEqual(channel(state)[4], [0, 0, 36294, 58139, 65535, 58310, 36635, 0])

    def test_the_centre_may_lie_outside_a_small_picture(self):
        inside = self.glow((2, 3), (3, 7, 2, 3, 2, 50000, 1, 2, 3))
        outside = self.glow((2, 3), (63, 63, 2, 3, 2, 50000, 1, 2, 3))
        self.assertEqual(seen(inside), seen(outside))

    def test_the_power(self):
        # At half the radius the strength is 49152, then 36864, 27648 and so on, each rounded down.
        strengths = [49152, 36864, 27648, 20736, 15552, 11664, 8748, 6561]
        for n, strength in enumerate(strengths, 1):
            state = self.glow((2, 2), (0, 0, 2, 2, n, 65535, 0, 0, 0))
            self.assertEqual(channel(state)[0], [65535, strength - 1, 0, strength - 1])

    def test_each_power_is_rounded_down(self):
        # 65536 - 7225 = 58311; 58311 * 58311 / 65536 = 51882.47; 51882 * 58311 / 65536 = 46162.33.
        state = self.glow((2, 2), (0, 0, 3, 3, 3, 65535, 0, 0, 0))
        self.assertEqual(channel(state)[0][1], 46161)

    def test_what_is_added_is_rounded_down(self):
        state = self.glow((2, 2), (0, 0, 2, 2, 1, 1, 2, 3, 4), (10, 10, 10, 10))
        self.assertEqual(pixel(state, 1, 0), [10, 11, 12, 13])

    def test_only_the_top_glows(self):
        calls = [(OPEN, 2, 2), (FLAT, 5, 5, 5, 5), (FLAT, 6, 6, 6, 6), (GLOW, 0, 0, 255, 255, 1, 9, 9, 9, 9)]
        state, given = play(calls)
        self.assertEqual(given[-1], [2])
        self.assertEqual((pixel(state, 0, 0), pixel(state, 0, 0, 1)), ([15] * 4, [5] * 4))

    def test_against_the_model(self):
        ends = [(0, 0, 1, 1, 1), (63, 63, 255, 255, 8), (2, 9, 1, 255, 3), (40, 6, 255, 1, 5), (3, 4, 7, 5, 2)]
        for a, b in ((2, 4), (4, 2), (3, 3)):
            for numbers in ends:
                check_against_model(self, [(OPEN, a, b), (NOISE, 3, 2, 2, 9000),
                                           (GLOW, *numbers, 65535, 40000, 1, 0)])


class Box(unittest.TestCase):
    def boxed(self, size, numbers):
        return channel(play([(OPEN, *size), (FLAT, 0, 0, 0, 0), (BOX, *numbers, 1, 2, 3, 65535)])[0])

    def test_inside(self):
        self.assertEqual(self.boxed((3, 2), (2, 1, 3, 2)), [
            [0, 0, 0, 0, 0, 0, 0, 0],
            [0, 0, 1, 1, 1, 0, 0, 0],
            [0, 0, 1, 1, 1, 0, 0, 0],
            [0, 0, 0, 0, 0, 0, 0, 0]])

    def test_over_both_edges(self):
        self.assertEqual(self.boxed((2, 3), (3, 6, 2, 3)), [
            [1, 0, 0, 1], [0, 0, 0, 0], [0, 0, 0, 0], [0, 0, 0, 0],
            [0, 0, 0, 0], [0, 0, 0, 0], [1, 0, 0, 1], [1, 0, 0, 1]])

    def test_a_place_outside_a_small_picture(self):
        self.assertEqual(self.boxed((2, 3), (63, 62, 2, 3)), self.boxed((2, 3), (3, 6, 2, 3)))

    def test_no_width_or_no_height(self):
        for width, height in ((0, 64), (64, 0), (0, 0)):
            self.assertEqual(self.boxed((2, 2), (1, 1, width, height)), [[0] * 4] * 4)

    def test_as_wide_or_wider_than_the_picture(self):
        for width, height in ((4, 8), (5, 9), (64, 64)):
            self.assertEqual(self.boxed((2, 3), (1, 1, width, height)), [[1] * 4] * 8)
        self.assertEqual(self.boxed((2, 2), (1, 2, 3, 64)), [[0, 1, 1, 1]] * 4)

    def test_the_whole_of_the_greatest_picture(self):
        self.assertEqual(self.boxed((6, 6), (63, 63, 64, 64)), [[1] * 64] * 64)
        self.assertEqual(self.boxed((6, 6), (63, 63, 63, 64)), [[1] * 62 + [0] + [1]] * 64)

    def test_all_four_channels(self):
        calls = [(OPEN, 2, 2), (FLAT, 9, 9, 9, 9), (FLAT, 7, 7, 7, 7), (BOX, 0, 0, 1, 1, 0, 65535, 5, 6)]
        state, given = play(calls)
        self.assertEqual(given[-1], [2])
        self.assertEqual((pixel(state, 0, 0), pixel(state, 1, 0)), ([0, 65535, 5, 6], [7, 7, 7, 7]))
        self.assertEqual(pixel(state, 0, 0, 1), [9, 9, 9, 9])

    def test_against_the_model(self):
        for numbers in ((5, 14, 6, 3), (63, 0, 2, 64), (0, 63, 64, 2), (11, 7, 1, 1), (3, 2, 4, 9)):
            check_against_model(self, [(OPEN, 3, 4), (NOISE, 3, 2, 2, 9000), (BOX, *numbers, 1, 0, 65535, 2)])


class OneBehindAnother(unittest.TestCase):
    kinds = (FLAT, NOISE, NOISE, NOISE, GLOW, BOX, BLUR, TURN, BEND, JOIN, LEVELS, COLOUR, LIGHT, COPY, COPY, SWAP,
             DROP, PIXEL, READ_BYTES, READ_WORDS)

    def call(self, drawn):
        number = drawn.choice(self.kinds)
        ranges = RANGES.get(number, ())
        numbers = [drawn.choice((low, high, drawn.randint(low, high), drawn.randint(low, high)))
                   for low, high in ranges]
        if drawn.random() < 0.04 and ranges:
            numbers[drawn.randrange(len(numbers))] = drawn.choice((-2147483648, 2147483647))
        if number in (FLAT, GLOW, BOX):
            numbers += [drawn.choice((0, 65535, drawn.randrange(65536))) for channel_number in range(4)]
        if number == LEVELS and drawn.random() < 0.9:
            numbers.sort()
        if number == COLOUR:
            # Small ones too, or nearly all results would be clamped.
            numbers = [drawn.choice((-32768, 32767, 0, 256, drawn.randint(-300, 300), drawn.randint(-300, 300)))
                       for place in range(12)]
        if number == COPY:
            numbers = [drawn.choice((0, 0, 1, 1, 2, 3, -1, 7))]
        if number == PIXEL:
            numbers = [drawn.randint(-1, 16), drawn.randint(-1, 16)]
        return (number, *numbers)

    def test_against_the_model(self):
        drawn = random.Random(20)
        for again in range(100):
            # Some pictures to begin with, or most of the calls would find too few.
            noises = [(NOISE, drawn.randrange(65536), 2, 3, 50000) for k in range(drawn.randint(1, 6))]
            calls = [(OPEN, drawn.randint(2, 4), drawn.randint(2, 4))] + noises
            calls += [self.call(drawn) for k in range(18)]
            check_against_model(self, calls)

    def test_all_values_stay_in_range_and_there_are_never_more_than_eight_pictures(self):
        drawn = random.Random(21)
        for again in range(30):
            state = play([(OPEN, drawn.randint(2, 3), drawn.randint(2, 4))])[0]
            for k in range(40):
                play([self.call(drawn)], state)
                self.assertLessEqual(len(state.pictures), 8)
                for picture in state.pictures:
                    self.assertEqual([len(plane) for plane in picture], [state.width * state.height] * 4)
                    for plane in picture:
                        self.assertTrue(0 <= min(plane) and max(plane) <= 65535)

    def test_a_picture_below_is_left_alone(self):
        state = play([(OPEN, 2, 2)])[0]
        put_top(state, [[[4 * y + x + 100 * c for x in range(4)] for y in range(4)] for c in range(4)])
        below = seen(state)[2][0]
        play([(NOISE, 1, 1, 2, 3), (NOISE, 4, 1, 2, 3), (BEND, 900), (BLUR, 1, 1, 1), (TURN, 9, 9), (NOISE, 1, 0, 1, 1),
              (JOIN, 7), (BOX, 0, 0, 2, 2, 1, 1, 1, 1), (GLOW, 0, 0, 2, 2, 1, 1, 1, 1, 1)], state)
        self.assertEqual(len(state.pictures), 2)
        self.assertEqual(seen(state)[2][0], below)


if __name__ == "__main__":
    unittest.main()
