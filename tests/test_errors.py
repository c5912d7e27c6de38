"""The errors: each range, each code, their order, and that a refused call changes nothing."""

import unittest

from helper import (BEND, BLUR, BOX, FLAT, GLOW, GOOD, JOIN, LEAST, MOST, NOISE, OPEN, RANGES, TURN, pixel, play,
                    seen)

# Two pictures that differ everywhere, on a stack wider and higher than every value of cell asks for.
READY = [(OPEN, 6, 6), (NOISE, 1, 6, 7, 50000), (NOISE, 2, 3, 2, 20000), (GLOW, 9, 50, 70, 30, 1, 1, 2, 3, 60000)]
SMALL = [(OPEN, 2, 2), (NOISE, 1, 2, 3, 50000), (NOISE, 2, 1, 2, 20000)]


def changed(call, place, number):
    """A good call with the number in the place of one of its arguments."""
    numbers = list(GOOD[call])
    numbers[place] = number
    return (call, *numbers)


class ErrorCase(unittest.TestCase):
    def check_refused(self, before, call, code):
        state = play(before)[0]
        as_it_was = seen(state)
        pictures = state.pictures
        with self.subTest(call=call):
            self.assertEqual(play([call], state)[1], [[code]])
            self.assertEqual(seen(state), as_it_was)
            self.assertIs(state.pictures, pictures)

    def check_taken(self, before, call, answer):
        with self.subTest(call=call):
            self.assertEqual(play([call], play(before)[0])[1], [[answer]])


class Ranges(ErrorCase):
    counts = {OPEN: 0, NOISE: 3, BEND: 1, JOIN: 1}

    def test_both_ends_of_each_range_are_taken(self):
        for call, ranges in RANGES.items():
            for place, (low, high) in enumerate(ranges):
                for number in (low, high):
                    self.check_taken(READY, changed(call, place, number), self.counts.get(call, 2))

    def test_outside_each_range_is_refused(self):
        for call, ranges in RANGES.items():
            for place, (low, high) in enumerate(ranges):
                for number in (low - 1, high + 1, LEAST, MOST):
                    self.check_refused(SMALL, changed(call, place, number), -2)

    def test_cell_must_fit_the_width_and_the_height(self):
        for a, b in ((2, 6), (6, 2), (3, 4), (4, 3), (2, 2), (6, 6), (5, 5)):
            opened = [(OPEN, a, b)]
            self.check_taken(opened, (NOISE, 7, min(a, b), 1, 0), 1)
            self.check_refused(opened, (NOISE, 7, min(a, b) + 1, 1, 0), -2)
            self.check_refused(opened, (NOISE, 7, max(a, b) + 1, 7, 65535), -2)

    def test_a_colour_is_never_out_of_range(self):
        for value in (0, 65535):
            self.check_taken(SMALL, (FLAT, value, value, value, value), 3)
            self.check_taken(SMALL, (GLOW, 0, 0, 1, 1, 1, value, value, value, value), 2)
            self.check_taken(SMALL, (BOX, 0, 0, 1, 1, value, value, value, value), 2)


class NoStack(ErrorCase):
    def test_all_calls_but_open(self):
        for call, numbers in GOOD.items():
            if call != OPEN:
                self.check_refused([], (call, *numbers), -7)

    def test_comes_ahead_of_a_wrong_argument(self):
        for call, ranges in RANGES.items():
            if call != OPEN:
                for number in (LEAST, ranges[0][0] - 1, ranges[0][1] + 1, MOST):
                    self.check_refused([], changed(call, 0, number), -7)

    def test_a_failing_open_opens_nothing(self):
        state, given = play([(OPEN, 1, 3), (OPEN, 3, 7), (OPEN, LEAST, MOST), (FLAT, 1, 2, 3, 4), (JOIN, 9)])
        self.assertEqual(given, [[-2], [-2], [-2], [-7], [-7]])
        self.assertIsNone(state.pictures)

    def test_a_failing_open_leaves_the_stack(self):
        for a, b in ((1, 3), (3, 1), (7, 2), (2, 7), (0, 0), (-1, 2), (LEAST, 3), (3, MOST), (MOST, LEAST)):
            self.check_refused(SMALL, (OPEN, a, b), -2)
        state, given = play([(OPEN, 3, 2), (FLAT, 1, 2, 3, 4), (OPEN, 7, 7), (FLAT, 5, 6, 7, 8)])
        self.assertEqual(given, [[0], [1], [-2], [2]])
        self.assertEqual((state.width, state.height), (8, 4))
        self.assertEqual((pixel(state, 7, 3), pixel(state, 7, 3, 1)), ([5, 6, 7, 8], [1, 2, 3, 4]))


class TooFew(ErrorCase):
    def test_no_picture(self):
        for call in (GLOW, BOX, BLUR, TURN, BEND, JOIN):
            self.check_refused([(OPEN, 3, 4)], (call, *GOOD[call]), -4)

    def test_one_picture_where_two_are_needed(self):
        for call in (BEND, JOIN):
            self.check_refused([(OPEN, 3, 4), (FLAT, 9, 8, 7, 6)], (call, *GOOD[call]), -4)

    def test_one_picture_where_one_is_needed(self):
        for call in (GLOW, BOX, BLUR, TURN):
            self.check_taken([(OPEN, 3, 4), (FLAT, 9, 8, 7, 6)], (call, *GOOD[call]), 1)

    def test_two_pictures(self):
        for call in (BEND, JOIN):
            self.check_taken([(OPEN, 3, 4), (FLAT, 9, 8, 7, 6), (FLAT, 1, 2, 3, 4)], (call, *GOOD[call]), 1)

    def test_a_wrong_argument_comes_first(self):
        for call in (GLOW, BOX, BLUR, TURN, BEND, JOIN):
            for place, (low, high) in enumerate(RANGES[call]):
                for number in (low - 1, high + 1):
                    self.check_refused([(OPEN, 3, 4)], changed(call, place, number), -2)
        for call in (BEND, JOIN):
            for number in (LEAST, MOST):
                self.check_refused([(OPEN, 3, 4), (FLAT, 9, 8, 7, 6)], (call, number), -2)


class Full(ErrorCase):
    eight = [(OPEN, 2, 3)] + [(FLAT, n, 2 * n, 3 * n, 4 * n) for n in range(1, 9)]

    def test_the_eighth_picture_is_taken_and_the_ninth_refused(self):
        self.assertEqual(play(self.eight)[1], [[n] for n in range(9)])
        self.check_taken(self.eight[:-1], (NOISE, 1, 2, 3, 4), 8)
        self.check_refused(self.eight, (FLAT, 1, 2, 3, 4), -5)
        self.check_refused(self.eight, (NOISE, 1, 2, 3, 4), -5)

    def test_a_wrong_argument_comes_first(self):
        for place, (low, high) in enumerate(RANGES[NOISE]):
            for number in (low - 1, high + 1, LEAST, MOST):
                self.check_refused(self.eight, changed(NOISE, place, number), -2)
        self.check_refused(self.eight, (NOISE, 1, 3, 1, 1), -2)

    def test_the_other_calls_go_on_with_eight(self):
        for call in (GLOW, BOX, BLUR, TURN):
            self.check_taken(self.eight, (call, *GOOD[call]), 8)
        for call in (BEND, JOIN):
            self.check_taken(self.eight, (call, *GOOD[call]), 7)

    def test_there_is_room_again_after_a_join(self):
        calls = self.eight + [(FLAT, 0, 0, 0, 0), (JOIN, 0), (FLAT, 0, 0, 0, 0), (FLAT, 0, 0, 0, 0)]
        self.assertEqual(play(calls)[1][9:], [[-5], [7], [8], [-5]])


if __name__ == "__main__":
    unittest.main()
