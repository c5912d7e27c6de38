"""The interface: how calls are handed in and answers given back, and that nothing is changed or kept."""

import time
import unittest

from glowtiles.studio import answers
from helper import (BEND, BLUR, BOX, COLOUR, COPY, DROP, FLAT, GLOW, GOOD, JOIN, LEVELS, LIGHT, NOISE, OPEN, PIXEL,
                    READ_BYTES, READ_WORDS, SWAP, TURN, ask, first_number, flattened, pixel, play)

# All the calls, some refusals among them.
MIXED = [
    (OPEN, 2, 3),
    (JOIN, 0),
    (FLAT, 1, 2, 3, 65535),
    (NOISE, 5, 1, 2, 30000),
    (GLOW, 1, 1, 3, 3, 2, 9, 9, 9, 9),
    (BOX, 1, 2, 2, 2, 7, 7, 7, 7),
    (BLUR, 1, 1, 1),
    (BLUR, 16, 1, 1),
    (TURN, 16000, 500),
    (JOIN, 6),
    (FLAT, 0, 65535, 0, 0),
    (BEND, 100),
    (LEVELS, 0, 65535),
    (LEVELS, 9, 9),
    (FLAT, 65535, 9, 65535, 0),
    (COLOUR, 0, 0, 0, 0, 0, 0, 0, 0, 0, 0, 256, 0),
    (COPY, 1),
    (COPY, 3),
    (SWAP,),
    (PIXEL, 3, 7),
    (READ_WORDS,),
    (READ_BYTES,),
    (LIGHT, 9, 9, 9),
    (PIXEL, 4, 0),
    (PIXEL, 0, 0),
    (DROP,),
]
MIXED_ANSWERS = [1, 0, 1, -4, 1, 1, 1, 2, 1, 2, 1, 2, 1, 2, 1, -2, 1, 2, 1, 1, 1, 2, 1, 1, 1, 1, 1, -2, 1, 2, 1, 2,
                 1, 3, 1, -2, 1, 3, 5, 0, 0, 0, 65535, 0, 33, 32] + [31] * 32 + [129, 128] + [0, 0, 255, 0] * 32 + [
                 1, 3, 1, -2, 5, 0, 32768, 32768, 32768, 0, 1, 2]


class ReadOnly(list):
    """A list that refuses every change, one that would be taken back later, too."""

    def refuse(self, *given, **named):
        raise AssertionError("what is handed in was changed")

    append = extend = insert = pop = remove = clear = reverse = sort = refuse
    __setitem__ = __delitem__ = __iadd__ = __imul__ = refuse


class Answers(unittest.TestCase):
    def test_each_call_is_answered_by_a_length_and_its_numbers(self):
        self.assertEqual(answers(flattened(MIXED)), MIXED_ANSWERS)

    def test_one_call_alone(self):
        self.assertEqual(answers([1, 2, 6]), [1, 0])
        self.assertEqual(answers([2, 1, 2, 3, 4]), [1, -7])

    def test_how_many_numbers_belong_to_each_call(self):
        for call, numbers in GOOD.items():
            calls = [(OPEN, 4, 4), (FLAT, 9, 9, 9, 9), (FLAT, 8, 8, 8, 8), (call, *numbers), (OPEN, 2, 2), (JOIN, 8)]
            # A pixel has four channels behind the 0; 16 by 16 pixels are read.
            length = {PIXEL: 5, READ_BYTES: 1025, READ_WORDS: 257}.get(call, 1)
            with self.subTest(call=call):
                told = ask(calls)
                self.assertEqual(told[:3] + told[4:], [[0], [1], [2], [0], [-2]])
                self.assertEqual((len(told[3]), told[3][0]), (length, first_number(call, 2, 256)))

    def test_the_numbers_of_the_calls(self):
        self.assertEqual((OPEN, FLAT, NOISE, GLOW, BOX, BLUR, TURN, BEND, JOIN), (1, 2, 3, 4, 5, 6, 7, 8, 9))
        self.assertEqual((LEVELS, COLOUR, LIGHT, COPY, SWAP, DROP, PIXEL, READ_BYTES, READ_WORDS),
                         (10, 11, 12, 13, 14, 15, 16, 17, 18))

    def test_the_example(self):
        calls = [1, 2, 2, 2, 65535, 0, 0, 65535, 2, 0, 65535, 0, 32768, 9, 6, 16, 0, 0, 10, 0, 32768, 16, 3, 3]
        self.assertEqual(answers(calls), [1, 0, 1, 1, 1, 2, 1, 1, 5, 0, 32767, 32768, 0, 49151, 1, 1,
                                          5, 0, 65533, 65535, 0, 49151])

    def test_the_coefficients_of_a_matrix_row_by_row(self):
        matrix = [256, 0, 0, 1, 0, 512, 0, 2, 0, 0, 768, 3]
        self.assertEqual(answers([1, 2, 2, 2, 10, 20, 30, 40, 11] + matrix + [16, 0, 0]),
                         [1, 0, 1, 1, 1, 1, 5, 0, 266, 552, 858, 40])

    def test_numbers_of_another_call_are_not_taken_for_calls(self):
        # The colours and coefficients are numbers of calls, too.
        self.assertEqual(answers([1, 2, 2, 2, 15, 14, 17, 18, 11, 15, 1, 2, 3, 4, 5, 6, 7, 8, 9, 10, 11, 13, 0, 15, 15,
                                  15]), [1, 0, 1, 1, 1, 1, 1, 2, 1, 1, 1, 0, 1, -4])

    def test_an_error_is_its_code_alone(self):
        for call in ((PIXEL, 4, 0), (PIXEL, 0, 4), (COPY, 1), (LIGHT, 257, 0, 0), (LEVELS, 5, 5)):
            self.assertEqual(answers(flattened([(OPEN, 2, 2), (FLAT, 1, 2, 3, 4), call])), [1, 0, 1, 1, 1, -2])
        for call in ((PIXEL, 3, 3), (READ_BYTES,), (READ_WORDS,), (DROP,), (SWAP,)):
            self.assertEqual(answers(flattened([(OPEN, 2, 2), call])), [1, 0, 1, -4])
            self.assertEqual(answers(list(call)), [1, -7])

    def test_sixty_calls(self):
        calls = [(OPEN, 6, 6)] + [(FLAT, 65535, 0, 65535, 0)] * 8 + [(BLUR, 15, 15, 3)] + [(FLAT, 1, 1, 1, 1)] * 50
        expected = [1, 0] + flattened([(1, n) for n in range(1, 9)]) + [1, 8] + [1, -5] * 50
        self.assertEqual(answers(flattened(calls)), expected)

    def test_gives_plain_numbers_in_a_list(self):
        given = answers(flattened(MIXED))
        self.assertIs(type(given), list)
        self.assertEqual({type(number) for number in given}, {int})


class LargestPictures(unittest.TestCase):
    """Sixty calls on pictures of 64 by 64; what counts is the time of this process, whatever else is running."""

    def check_soon(self, *repeated):
        before = [(OPEN, 6, 6), (NOISE, 1, 6, 7, 60000), (NOISE, 2, 5, 6, 60000)]
        calls = (before + list(repeated) * 57)[:60]
        start = time.process_time()
        given = answers(flattened(calls))
        with self.subTest(repeated=repeated):
            self.assertLess(time.process_time() - start, 10)
            self.assertLess(len(given), 1000060)

    def test_reading(self):
        self.check_soon((READ_BYTES,))
        self.check_soon((READ_WORDS,))
        self.check_soon((PIXEL, 63, 63))

    def test_changing(self):
        self.check_soon((GLOW, 32, 32, 255, 255, 8, 65535, 65535, 65535, 65535))
        self.check_soon((BOX, 63, 63, 64, 64, 1, 2, 3, 4))
        self.check_soon((BLUR, 15, 15, 3))
        self.check_soon((TURN, 11585, 11585))
        self.check_soon((LEVELS, 20000, 40000))
        self.check_soon((COLOUR, *[32767, -32768] * 6))
        self.check_soon((LIGHT, 256, -256, 4096))

    def test_pushing_and_taking(self):
        self.check_soon((NOISE, 3, 6, 7, 65535), (DROP,))
        self.check_soon((COPY, 1), (BEND, 8192))
        self.check_soon((COPY, 1), (JOIN, 6))
        self.check_soon((COPY, 1), (SWAP,), (DROP,))


class NothingKept(unittest.TestCase):
    def test_what_is_handed_in_stays_as_it_was(self):
        calls = flattened(MIXED)
        answers(calls)
        self.assertEqual(calls, flattened(MIXED))

    def test_what_is_handed_in_is_not_changed_for_a_while_either(self):
        self.assertEqual(answers(ReadOnly(flattened(MIXED))), MIXED_ANSWERS)

    def test_the_same_list_twice(self):
        calls = flattened(MIXED)
        first = answers(calls)
        second = answers(calls)
        self.assertEqual(first, second)
        self.assertIsNot(first, second)

    def test_a_changed_answer_does_not_come_again(self):
        calls = flattened(MIXED)
        answers(calls).append(99)
        self.assertEqual(answers(calls), MIXED_ANSWERS)

    def test_no_stack_is_kept_for_the_next_time(self):
        self.assertEqual(answers([1, 2, 2, 2, 1, 2, 3, 4]), [1, 0, 1, 1])
        self.assertEqual(answers([2, 1, 2, 3, 4]), [1, -7])
        self.assertEqual(answers([1, 2, 2, 6, 0, 0, 1]), [1, 0, 1, -4])
        self.assertEqual(answers([16, 0, 0, 1, 3, 3, 17]), [1, -7, 1, 0, 1, -4])

    def test_two_states_do_not_share_their_pictures(self):
        one = play([(OPEN, 2, 2), (FLAT, 1, 2, 3, 4)])[0]
        other = play([(OPEN, 3, 2), (FLAT, 5, 6, 7, 8), (FLAT, 9, 9, 9, 9)])[0]
        self.assertEqual((len(one.pictures), len(other.pictures)), (1, 2))
        self.assertEqual(pixel(one, 3, 3), [1, 2, 3, 4])


if __name__ == "__main__":
    unittest.main()
