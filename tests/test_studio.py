"""The interface: how calls are handed in and answers given back, and that nothing is changed or kept."""

import unittest

from glowtiles.studio import answers
from helper import BEND, BLUR, BOX, FLAT, GLOW, GOOD, JOIN, NOISE, OPEN, TURN, flattened, pixel, play

# All nine calls, two refusals among them.
MIXED = [
    (OPEN, 2, 3),
    (JOIN, 0),
    (FLAT, 1, 2, 3, 65535),
    (NOISE, 5, 1, 2, 30000),
    (GLOW, 1, 1, 3, 3, 2, 9, 9, 9, 9),
    (BOX, 1, 2, 2, 2, 7, 7, 7, 7),
    (BLUR, 1, 1, 1),
    (BLUR, 16, 1, 1),
    (TURN, 16000, 500),
    (JOIN, 6),
    (FLAT, 0, 65535, 0, 0),
    (BEND, 100),
]
MIXED_ANSWERS = [1, 0, 1, -4, 1, 1, 1, 2, 1, 2, 1, 2, 1, 2, 1, -2, 1, 2, 1, 1, 1, 2, 1, 1]


class ReadOnly(list):
    """A list that refuses every change, one that would be taken back later, too."""

    def refuse(self, *given, **named):
        raise AssertionError("what is handed in was changed")

    append = extend = insert = pop = remove = clear = reverse = sort = refuse
    __setitem__ = __delitem__ = __iadd__ = __imul__ = refuse


class Answers(unittest.TestCase):
    def test_each_call_is_answered_by_a_length_and_its_numbers(self):
        self.assertEqual(answers(flattened(MIXED)), MIXED_ANSWERS)

    def test_one_call_alone(self):
        self.assertEqual(answers([1, 2, 6]), [1, 0])
        self.assertEqual(answers([2, 1, 2, 3, 4]), [1, -7])

    def test_how_many_numbers_belong_to_each_call(self):
        for call, numbers in GOOD.items():
            calls = [(OPEN, 4, 4), (FLAT, 9, 9, 9, 9), (FLAT, 8, 8, 8, 8), (call, *numbers), (OPEN, 2, 2), (JOIN, 8)]
            count = {OPEN: 0, FLAT: 3, NOISE: 3, BEND: 1, JOIN: 1}.get(call, 2)
            with self.subTest(call=call):
                self.assertEqual(answers(flattened(calls)), [1, 0, 1, 1, 1, 2, 1, count, 1, 0, 1, -2])

    def test_the_numbers_of_the_calls(self):
        self.assertEqual((OPEN, FLAT, NOISE, GLOW, BOX, BLUR, TURN, BEND, JOIN), (1, 2, 3, 4, 5, 6, 7, 8, 9))

    def test_the_example_as_far_as_the_join(self):
        self.assertEqual(answers([1, 2, 2, 2, 65535, 0, 0, 65535, 2, 0, 65535, 0, 32768, 9, 6]),
                         [1, 0, 1, 1, 1, 2, 1, 1])
        state, given = play([(1, 2, 2), (2, 65535, 0, 0, 65535), (2, 0, 65535, 0, 32768), (9, 6)])
        self.assertEqual(given, [[0], [1], [2], [1]])
        self.assertEqual(pixel(state, 0, 0), [32767, 32768, 0, 49151])

    def test_sixty_calls(self):
        calls = [(OPEN, 6, 6)] + [(FLAT, 65535, 0, 65535, 0)] * 8 + [(BLUR, 15, 15, 3)] + [(FLAT, 1, 1, 1, 1)] * 50
        expected = [1, 0] + flattened([(1, n) for n in range(1, 9)]) + [1, 8] + [1, -5] * 50
        self.assertEqual(answers(flattened(calls)), expected)

    def test_gives_plain_numbers_in_a_list(self):
        given = answers(flattened(MIXED))
        self.assertIs(type(given), list)
        self.assertEqual({type(number) for number in given}, {int})


class NothingKept(unittest.TestCase):
    def test_what_is_handed_in_stays_as_it_was(self):
        calls = flattened(MIXED)
        answers(calls)
        self.assertEqual(calls, flattened(MIXED))

    def test_what_is_handed_in_is_not_changed_for_a_while_either(self):
        self.assertEqual(answers(ReadOnly(flattened(MIXED))), MIXED_ANSWERS)

    def test_the_same_list_twice(self):
        calls = flattened(MIXED)
        first = answers(calls)
        second = answers(calls)
        self.assertEqual(first, second)
        self.assertIsNot(first, second)

    def test_a_changed_answer_does_not_come_again(self):
        calls = flattened(MIXED)
        answers(calls).append(99)
        self.assertEqual(answers(calls), MIXED_ANSWERS)

    def test_no_stack_is_kept_for_the_next_time(self):
        self.assertEqual(answers([1, 2, 2, 2, 1, 2, 3, 4]), [1, 0, 1, 1])
        self.assertEqual(answers([2, 1, 2, 3, 4]), [1, -7])
        self.assertEqual(answers([1, 2, 2, 6, 0, 0, 1]), [1, 0, 1, -4])

    def test_two_states_do_not_share_their_pictures(self):
        one = play([(OPEN, 2, 2), (FLAT, 1, 2, 3, 4)])[0]
        other = play([(OPEN, 3, 2), (FLAT, 5, 6, 7, 8), (FLAT, 9, 9, 9, 9)])[0]
        self.assertEqual((len(one.pictures), len(other.pictures)), (1, 2))
        self.assertEqual(pixel(one, 3, 3), [1, 2, 3, 4])


if __name__ == "__main__":
    unittest.main()
