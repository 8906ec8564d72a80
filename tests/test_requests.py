"""The form of a request and its answer, and the document's examples."""

import unittest

from fewstones.palette import answers
from helper import (
    add_shade, best_groups, best_palette, colour_of, create, describe, error_reduction,
    error_table, group_counts, in_one_list, median, min_colours, min_error, palette_error,
    request, remove_shade, set_count, totals,
)

FULL = [create()] + [add_shade(20 * number, 1 + number) for number in range(12)]
SIXTY = (
    FULL
    + [min_error(k) for k in range(6)]
    + [best_palette(k) for k in range(6)]
    + [best_groups(k) for k in range(6)]
    + [colour_of(i, 3) for i in range(6)]
    + [error_reduction(1), error_table(), min_colours(9), totals(), describe()]
    + [palette_error([20] * length) for length in (0, 1, 12, 13, 70)]
    + [median(0, j) for j in range(5)]
    + [group_counts(k) for k in range(6)]
    + [remove_shade(11), set_count(10, 999)]
)


class ExamplesTest(unittest.TestCase):
    def test_rows(self):
        rows = [
            (create(), [0]),
            (add_shade(100, 2), [0]),
            (add_shade(20, 3), [0]),
            (add_shade(110, 1), [2]),
            (add_shade(30, 1), [1]),
            (describe(), [4, 20, 3, 30, 1, 100, 2, 110, 1]),
            (error_table(), [4, -1, 250, 20, 10, 0]),
            (best_palette(2), [2, 20, 100]),
            (best_groups(2), [2, 2, 10, 2, 10]),
            (colour_of(3, 2), [100]),
            (error_reduction(1), [230]),
            (min_colours(15), [3]),
            (palette_error([25, 105]), [35]),
            (median(0, 3), [30, 250]),
            (add_shade(30, 5), [-17]),
        ]
        self.assertEqual(request([call for call, answer in rows]), [answer for call, answer in rows])


class FormTest(unittest.TestCase):
    def test_count_stands_ahead_of_each_answer(self):
        calls = [0, 1, 100, 2, 1, 20, 3, 6, 1, 5, 2, 4, 0, 7, 1, 1, 2, 0, 3, 0, 9]
        self.assertEqual(
            answers(calls), [1, 0, 1, 0, 1, 0, 3, 1, 2, 160, 3, 2, 20, 100, 1, -33, 1, 20, 1, 1, 1, 2])

    def test_each_of_the_later_calls_ends_where_the_next_begins(self):
        calls = [
            0, 1, 20, 3, 1, 100, 2, 8, 1, 9, 10, 0, 11, 0, 11, 1, 60, 11, 3, 15, 14, 9, 12, 0, 1,
            13, 2, 14, 15,
        ]
        self.assertEqual(answers(calls), [
            1, 0, 1, 0, 1, 1, 1, 160, 4, 2, -1, 160, 0, 1, 2, 1, -22, 1, 200, 1, 185, 2, 20, 160,
            3, 2, 3, 2, 2, 2, 5, 5, 2, 20, 3, 100, 2,
        ])

    def test_palette_is_passed_by_where_there_is_no_instance(self):
        self.assertEqual(answers([11, 0]), [1, -11])
        self.assertEqual(answers([11, 3, 0, 0, 1, 0, 15]), [1, -11, 1, 0, 1, 0])

    def test_palette_of_70_elements_is_passed_by(self):
        self.assertEqual(answers([0, 11, 70] + [0] * 70 + [14]), [1, 0, 1, -22, 2, 0, 0])

    def test_one_call(self):
        self.assertEqual(answers([0]), [1, 0])
        self.assertEqual(answers([4, 1]), [1, -11])
        self.assertEqual(answers([7, 0, 0]), [1, -11])

    def test_sixty_calls(self):
        self.assertEqual(len(SIXTY), 60)
        answered = request(SIXTY)
        self.assertEqual(answered[:13], [[0]] + [[number] for number in range(12)])
        self.assertEqual([answer[0] for answer in answered[19:25]], [-33] + list(range(1, 6)))
        self.assertEqual([answer[0] for answer in answered[25:31]], [-33] + list(range(1, 6)))
        self.assertEqual([len(answer) for answer in answered[37:42]], [1, 14, 1, 2, 25])
        self.assertEqual([answer[0] for answer in answered[42:47]], [-22, 9920, 9920, -22, -22])
        self.assertEqual([answer[0] for answer in answered[47:52]], [0, 20, 20, 40, 60])
        self.assertEqual([answer[0] for answer in answered[52:58]], [-33] + list(range(1, 6)))
        self.assertEqual(answered[58:], [[11], [11]])

    def test_sixty_calls_without_an_instance(self):
        self.assertEqual(answers([3, 0, 5] * 60), [1, -11] * 60)

    def test_whole_numbers_in_a_list(self):
        answered = answers(in_one_list(SIXTY))
        self.assertIs(type(answered), list)
        self.assertEqual({type(number) for number in answered}, {int})

    def test_what_is_handed_in_stays_the_same(self):
        calls = in_one_list(SIXTY)
        before = list(calls)
        answers(calls)
        self.assertEqual(calls, before)

    def test_the_same_request_has_the_same_answer(self):
        calls = in_one_list(SIXTY)
        first = answers(calls)
        kept = list(first)
        self.assertEqual(answers(calls), kept)
        self.assertEqual(first, kept)

    def test_nothing_is_kept_from_one_request_to_the_next(self):
        answers(in_one_list(FULL))
        self.assertEqual(request([best_palette(1), create(), best_palette(1)]), [[-11], [0], [0]])


if __name__ == "__main__":
    unittest.main()
