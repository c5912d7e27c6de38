"""The errors: each range, each code, their order, and that a refused call changes nothing."""

import unittest

from helper import (BOX, COLOUR, COPY, DROP, FLAT, GLOW, GOOD, JOIN, LEAST, LEVELS, MOST, NOISE, OPEN, PIXEL, RANGES,
                    TAKING_ONE, TAKING_TWO, ask, everything, first_number, play, seen, whole)

# Pictures that differ everywhere; the first stack is wider and higher than every value of cell asks for.
READY = [(OPEN, 6, 6), (NOISE, 1, 6, 7, 50000), (NOISE, 2, 3, 2, 20000), (GLOW, 9, 50, 70, 30, 1, 1, 2, 3, 60000)]
SMALL = [(OPEN, 2, 2), (NOISE, 1, 2, 3, 50000), (NOISE, 2, 1, 2, 20000)]
EMPTY = [(OPEN, 3, 4)]
SINGLE = [(OPEN, 2, 3), (FLAT, 9, 8, 7, 6)]
EIGHT = [(OPEN, 2, 3)] + [(FLAT, n, 2 * n, 3 * n, 4 * n) for n in range(1, 9)]

# With these numbers in these places of the good call, low is not less than high.
EMPTY_SPANS = ((LEVELS, 0, 65535), (LEVELS, 1, 0))


def changed(call, place, number):
    """A good call with the number in the place of one of its arguments."""
    numbers = list(GOOD[call])
    numbers[place] = number
    return (call, *numbers)


def wrong_calls(calls, count):
    """Calls among these that have one argument out of range where there are so many pictures, 8 by 16 at most."""
    wrong = []
    for call in calls:
        for place, (low, high) in enumerate(RANGES.get(call, ())):
            wrong += [changed(call, place, number) for number in (LEAST, low - 1, high + 1, MOST)]
        if call == LEVELS:
            wrong += [(LEVELS, low, high) for low, high in ((0, 0), (300, 300), (65535, 65535), (301, 300), (65535, 0))]
        if call == COPY:
            wrong += [(COPY, k) for k in (LEAST, -1, count, count + 1, 8, MOST)]
        if call == PIXEL:
            wrong += [(PIXEL, x, 0) for x in (LEAST, -1, 8, MOST)] + [(PIXEL, 0, y) for y in (LEAST, -1, 16, MOST)]
    return wrong


class ErrorCase(unittest.TestCase):
    def check_refused(self, before, call, code):
        with self.subTest(call=call):
            self.assertEqual(ask(before + [call])[-1], [code])
            self.assertEqual(everything(before + [call]), everything(before))
            state = play(before)[0]
            as_it_was = seen(state)
            pictures = state.pictures
            self.assertEqual(play([call], state)[1], [[code]])
            self.assertEqual(seen(state), as_it_was)
            self.assertIs(state.pictures, pictures)

    def check_taken(self, before, call, first):
        with self.subTest(call=call):
            self.assertEqual(ask(before + [call])[-1][0], first)


class Ranges(ErrorCase):
    def test_both_ends_of_each_range_are_taken(self):
        for call, ranges in RANGES.items():
            for place, (low, high) in enumerate(ranges):
                for number in (low, high):
                    if (call, place, number) not in EMPTY_SPANS:
                        self.check_taken(READY, changed(call, place, number), first_number(call, 2, 4096))

    def test_outside_each_range_is_refused(self):
        for call in wrong_calls(GOOD, 2):
            self.check_refused(SMALL, call, -2)

    def test_cell_must_fit_the_width_and_the_height(self):
        for a, b in ((2, 6), (6, 2), (3, 4), (4, 3), (2, 2), (6, 6), (5, 5)):
            opened = [(OPEN, a, b)]
            self.check_taken(opened, (NOISE, 7, min(a, b), 1, 0), 1)
            self.check_refused(opened, (NOISE, 7, min(a, b) + 1, 1, 0), -2)
            self.check_refused(opened, (NOISE, 7, max(a, b) + 1, 7, 65535), -2)

    def test_low_must_be_less_than_high(self):
        for low, high in ((0, 1), (0, 65535), (65534, 65535), (300, 301)):
            self.check_taken(SMALL, (LEVELS, low, high), 2)
        for low, high in ((0, 0), (1, 0), (65535, 65535), (65535, 65534), (300, 300), (301, 300), (65535, 0)):
            self.check_refused(SMALL, (LEVELS, low, high), -2)

    def test_there_must_be_the_picture_to_copy(self):
        for count in range(1, 8):
            before = EIGHT[:count + 1]
            for k in range(count):
                self.check_taken(before, (COPY, k), count + 1)
            for k in (LEAST, -count, -1, count, count + 1, 8, MOST):
                self.check_refused(before, (COPY, k), -2)

    def test_there_must_be_the_pixel(self):
        for a, b in ((2, 2), (2, 3), (3, 2), (6, 2), (2, 6)):
            w, h = 2 ** a, 2 ** b
            before = [(OPEN, a, b), (FLAT, 5, 6, 7, 8)]
            for x, y in ((0, 0), (w - 1, 0), (0, h - 1), (w - 1, h - 1)):
                self.check_taken(before, (PIXEL, x, y), 0)
            for x, y in ((w, 0), (0, h), (w, h - 1), (w - 1, h), (w, h), (-1, 0), (0, -1), (MOST, 0), (0, LEAST)):
                with self.subTest(size=(w, h), place=(x, y)):
                    self.assertEqual(ask(before + [(PIXEL, x, y), (PIXEL, w - 1, h - 1)])[2:], [[-2], [0, 5, 6, 7, 8]])

    def test_a_colour_is_never_out_of_range(self):
        for value in (0, 65535):
            self.check_taken(SMALL, (FLAT, value, value, value, value), 3)
            self.check_taken(SMALL, (GLOW, 0, 0, 1, 1, 1, value, value, value, value), 2)
            self.check_taken(SMALL, (BOX, 0, 0, 1, 1, value, value, value, value), 2)

    def test_a_coefficient_is_never_out_of_range(self):
        for place in range(12):
            for coefficient in (-32768, 32767):
                self.check_taken(SMALL, changed(COLOUR, place, coefficient), 2)


class NoStack(ErrorCase):
    def test_all_calls_but_open(self):
        for call, numbers in GOOD.items():
            if call != OPEN:
                self.check_refused([], (call, *numbers), -7)

    def test_comes_ahead_of_a_wrong_argument(self):
        for call in wrong_calls([call for call in GOOD if call != OPEN], 0):
            self.check_refused([], call, -7)

    def test_a_failing_open_opens_nothing(self):
        calls = [(OPEN, 1, 3), (OPEN, 3, 7), (OPEN, LEAST, MOST), (FLAT, 1, 2, 3, 4), (JOIN, 9), (COPY, -1), (DROP,)]
        self.assertEqual(ask(calls), [[-2], [-2], [-2], [-7], [-7], [-7], [-7]])

    def test_a_failing_open_leaves_the_stack(self):
        for a, b in ((1, 3), (3, 1), (7, 2), (2, 7), (0, 0), (-1, 2), (LEAST, 3), (3, MOST), (MOST, LEAST)):
            self.check_refused(SMALL, (OPEN, a, b), -2)
        calls = [(OPEN, 3, 2), (FLAT, 1, 2, 3, 4), (OPEN, 7, 7), (FLAT, 5, 6, 7, 8)]
        self.assertEqual(ask(calls), [[0], [1], [-2], [2]])
        self.assertEqual(everything(calls), ([[[(5, 6, 7, 8)] * 8] * 4, [[(1, 2, 3, 4)] * 8] * 4], [-4]))


class TooFew(ErrorCase):
    def test_no_picture(self):
        for call in TAKING_ONE + TAKING_TWO:
            self.check_refused(EMPTY, (call, *GOOD[call]), -4)

    def test_no_picture_left(self):
        for call in TAKING_ONE + TAKING_TWO:
            self.check_refused(SINGLE + [(DROP,)], (call, *GOOD[call]), -4)

    def test_one_picture_where_two_are_needed(self):
        for call in TAKING_TWO:
            self.check_refused(SINGLE, (call, *GOOD[call]), -4)

    def test_one_picture_where_one_is_needed(self):
        for call in TAKING_ONE:
            self.check_taken(SINGLE, (call, *GOOD[call]), first_number(call, 1, 32))

    def test_two_pictures(self):
        for call in TAKING_ONE + TAKING_TWO:
            self.check_taken(SMALL, (call, *GOOD[call]), first_number(call, 2, 16))

    def test_a_wrong_argument_comes_first(self):
        for call in wrong_calls(TAKING_ONE + TAKING_TWO, 0):
            self.check_refused(EMPTY, call, -2)
        for call in wrong_calls(TAKING_TWO, 1):
            self.check_refused(SINGLE, call, -2)

    def test_a_copy_of_no_picture_is_a_wrong_argument(self):
        for k in (LEAST, -1, 0, 1, 7, 8, MOST):
            self.check_refused(EMPTY, (COPY, k), -2)

    def test_a_pixel_beyond_an_empty_stack_is_a_wrong_argument(self):
        for x, y in ((8, 0), (0, 16), (8, 16), (-1, 0), (0, -1)):
            self.check_refused(EMPTY, (PIXEL, x, y), -2)
        for x, y in ((0, 0), (7, 0), (0, 15), (7, 15)):
            self.check_refused(EMPTY, (PIXEL, x, y), -4)


class Full(ErrorCase):
    def test_the_eighth_picture_is_taken_and_the_ninth_refused(self):
        self.assertEqual(ask(EIGHT), [[n] for n in range(9)])
        for call in ((FLAT, 1, 2, 3, 4), (NOISE, 1, 2, 3, 4), (COPY, 0), (COPY, 6)):
            self.check_taken(EIGHT[:-1], call, 8)
        for call in ((FLAT, 1, 2, 3, 4), (NOISE, 1, 2, 3, 4), (COPY, 0), (COPY, 3), (COPY, 7)):
            self.check_refused(EIGHT, call, -5)

    def test_a_wrong_argument_comes_first(self):
        for call in wrong_calls((NOISE, COPY), 8) + [(NOISE, 1, 3, 1, 1)]:
            self.check_refused(EIGHT, call, -2)

    def test_the_other_calls_go_on_with_eight(self):
        for call in (OPEN,) + TAKING_ONE + TAKING_TWO:
            self.check_taken(EIGHT, (call, *GOOD[call]), first_number(call, 8, 32))

    def test_there_is_room_again_after_a_join_and_a_drop(self):
        refused = (FLAT, 0, 0, 0, 0)
        for freeing in ((JOIN, 0), (DROP,)):
            calls = EIGHT + [refused, freeing, (COPY, 6), refused, (COPY, 7)]
            self.assertEqual(ask(calls)[9:], [[-5], [7], [8], [-5], [-5]])
            self.assertEqual(whole(calls), [[(1, 2, 3, 4)] * 4] * 8)


if __name__ == "__main__":
    unittest.main()
