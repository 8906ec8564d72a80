"""The form of a request and its answer, and the document's examples."""

import unittest

from fewstones.palette import answers
from helper import (
    add_shade, best_groups, best_palette, colour_of, create, in_one_list, min_error, request,
    remove_shade, set_count,
)

FULL = [create()] + [add_shade(20 * number, 1 + number) for number in range(12)]
SIXTY = (
    FULL
    + [min_error(k) for k in range(12)]
    + [best_palette(k) for k in range(12)]
    + [best_groups(k) for k in range(1, 12)]
    + [colour_of(i, 3) for i in range(10)]
    + [remove_shade(11), set_count(10, 999)]
)


class ExamplesTest(unittest.TestCase):
    def test_rows_with_these_calls(self):
        rows = [
            (create(), [0]),
            (add_shade(100, 2), [0]),
            (add_shade(20, 3), [0]),
            (add_shade(110, 1), [2]),
            (add_shade(30, 1), [1]),
            (best_palette(2), [2, 20, 100]),
            (best_groups(2), [2, 2, 10, 2, 10]),
            (colour_of(3, 2), [100]),
            (add_shade(30, 5), [-17]),
        ]
        self.assertEqual(request([call for call, answer in rows]), [answer for call, answer in rows])


class FormTest(unittest.TestCase):
    def test_count_stands_ahead_of_each_answer(self):
        calls = [0, 1, 100, 2, 1, 20, 3, 6, 1, 5, 2, 4, 0, 7, 1, 1, 2, 0, 3, 0, 9]
        self.assertEqual(
            answers(calls), [1, 0, 1, 0, 1, 0, 3, 1, 2, 160, 3, 2, 20, 100, 1, -33, 1, 20, 1, 1, 1, 2])

    def test_one_call(self):
        self.assertEqual(answers([0]), [1, 0])
        self.assertEqual(answers([4, 1]), [1, -11])
        self.assertEqual(answers([7, 0, 0]), [1, -11])

    def test_sixty_calls(self):
        self.assertEqual(len(SIXTY), 60)
        answered = request(SIXTY)
        self.assertEqual(answered[:13], [[0]] + [[number] for number in range(12)])
        self.assertEqual(answered[13], [-33])
        self.assertEqual(answered[24], [20])
        self.assertEqual([answer[0] for answer in answered[25:37]], [-33] + list(range(1, 12)))
        self.assertEqual([answer[0] for answer in answered[37:48]], list(range(1, 12)))
        self.assertEqual(answered[58:], [[11], [11]])

    def test_sixty_calls_without_an_instance(self):
        self.assertEqual(answers([3, 0, 5] * 60), [1, -11] * 60)

    def test_whole_numbers_in_a_list(self):
        answered = answers(in_one_list(SIXTY))
        self.assertIs(type(answered), list)
        self.assertEqual({type(number) for number in answered}, {int})

    def test_what_is_handed_in_stays_the_same(self):
        calls = in_one_list(SIXTY)
        before = list(calls)
        answers(calls)
        self.assertEqual(calls, before)

    def test_the_same_request_has_the_same_answer(self):
        calls = in_one_list(SIXTY)
        first = answers(calls)
        kept = list(first)
        self.assertEqual(answers(calls), kept)
        self.assertEqual(first, kept)

    def test_nothing_is_kept_from_one_request_to_the_next(self):
        answers(in_one_list(FULL))
        self.assertEqual(request([best_palette(1), create(), best_palette(1)]), [[-11], [0], [0]])


if __name__ == "__main__":
    unittest.main()
