"""error_reduction, error_table, min_colours and palette_error: answers, edges and errors."""

import unittest

from helper import (
    HIGHEST, LOWEST, add_shade, ask, ask_one, error_reduction, error_table, min_colours,
    min_error, palette_error, remove_shade, set_count,
)

FOUR = [(20, 3), (30, 1), (100, 2), (110, 1)]
TWELVE = [(20 * number, 1 + number) for number in range(12)]
TWELVE_LEVELS = [level for level, count in TWELVE]


class ErrorReductionTest(unittest.TestCase):
    def test_ordinary(self):
        answered = ask(FOUR, *[error_reduction(k) for k in (1, 2, 3)])
        self.assertEqual(answered, [[230], [10], [10]])

    def test_as_many_colours_as_shades_and_more(self):
        for k in (4, 5, 11, 12):
            self.assertEqual(ask_one(FOUR, error_reduction(k)), [0], k)

    def test_twelve_shades(self):
        answered = ask(TWELVE, *[error_reduction(k) for k in (11, 12)])
        self.assertEqual(answered, [[20], [0]])

    def test_one_shade(self):
        answered = ask([(77, 9)], error_reduction(1), error_reduction(12))
        self.assertEqual(answered, [[0], [0]])

    def test_no_shades(self):
        answered = ask([], error_reduction(0), error_reduction(1), error_reduction(12))
        self.assertEqual(answered, [[0], [0], [0]])

    def test_largest_reduction(self):
        self.assertEqual(ask_one([(0, 999), (255, 999)], error_reduction(1)), [254745])

    def test_k_out_of_range(self):
        for shades in (FOUR, []):
            for k in (-1, 13, LOWEST, HIGHEST):
                self.assertEqual(ask_one(shades, error_reduction(k)), [-22], k)

    def test_no_colours_for_shades(self):
        for shades in (FOUR, FOUR[:1], TWELVE):
            self.assertEqual(ask_one(shades, error_reduction(0)), [-33])


class ErrorTableTest(unittest.TestCase):
    def test_ordinary(self):
        self.assertEqual(ask_one(FOUR, error_table()), [4, -1, 250, 20, 10, 0])

    def test_no_shades(self):
        self.assertEqual(ask_one([], error_table()), [0, 0])

    def test_one_shade(self):
        self.assertEqual(ask_one([(77, 9)], error_table()), [1, -1, 0])

    def test_two_shades(self):
        self.assertEqual(ask_one([(0, 3), (255, 2)], error_table()), [2, -1, 510, 0])

    def test_twelve_shades(self):
        answer = ask_one(TWELVE, error_table())
        errors = [error[0] for error in ask(TWELVE, *[min_error(k) for k in range(1, 13)])]
        self.assertEqual(answer, [12, -1] + errors)
        self.assertEqual(answer[:3], [12, -1, 3760])
        self.assertEqual(answer[-2:], [20, 0])

    def test_after_changes(self):
        answered = ask(
            FOUR, remove_shade(3), error_table(), set_count(0, 1), error_table(),
            add_shade(40, 1), error_table())
        self.assertEqual(answered[1::2], [[3, -1, 170, 10, 0], [3, -1, 150, 10, 0],
                                          [4, -1, 150, 20, 10, 0]])


class MinColoursTest(unittest.TestCase):
    def test_ordinary(self):
        self.assertEqual(ask_one(FOUR, min_colours(15)), [3])

    def test_error_that_is_just_reached_and_one_less(self):
        answered = ask(FOUR, *[min_colours(error) for error in (250, 249, 20, 19, 10, 9, 1)])
        self.assertEqual(answered, [[1], [2], [2], [3], [3], [4], [4]])

    def test_no_error(self):
        self.assertEqual(ask_one(FOUR, min_colours(0)), [4])
        self.assertEqual(ask_one(TWELVE, min_colours(0)), [12])
        self.assertEqual(ask_one([(77, 9)], min_colours(0)), [1])

    def test_twelve_shades(self):
        answered = ask(TWELVE, *[min_colours(error) for error in (19, 20, 3759, 3760)])
        self.assertEqual(answered, [[12], [11], [2], [1]])

    def test_largest_error_still_needs_a_colour(self):
        for shades in (FOUR, TWELVE, FOUR[:1]):
            self.assertEqual(ask_one(shades, min_colours(HIGHEST)), [1])

    def test_no_shades(self):
        answered = ask([], min_colours(0), min_colours(1), min_colours(HIGHEST))
        self.assertEqual(answered, [[0], [0], [0]])

    def test_error_below_0(self):
        for shades in (FOUR, [], TWELVE):
            for error in (-1, -2, LOWEST):
                self.assertEqual(ask_one(shades, min_colours(error)), [-22], error)


class PaletteErrorTest(unittest.TestCase):
    def test_ordinary(self):
        answered = ask(FOUR, palette_error([25, 105]), palette_error([20, 100]),
                       palette_error([60, 200]))
        self.assertEqual(answered, [[35], [20], [280]])

    def test_one_colour(self):
        answered = ask(FOUR, *[palette_error([colour]) for colour in (0, 30, 101, 255)])
        self.assertEqual(answered, [[400], [250], [325], [1385]])

    def test_colours_in_any_order_and_several_times(self):
        same = [[25, 105], [105, 25], [25, 25, 105], [105, 25, 105, 25], [25] * 11 + [105]]
        answered = ask(FOUR, *[palette_error(palette) for palette in same])
        self.assertEqual(answered, [[35]] * 5)

    def test_twelve_colours(self):
        answered = ask(TWELVE, palette_error(TWELVE_LEVELS), palette_error(TWELVE_LEVELS[::-1]),
                       palette_error([level + 1 for level in TWELVE_LEVELS]),
                       palette_error([0] * 11 + [220]))
        self.assertEqual(answered, [[0], [0], [78], [3900]])

    def test_one_shade(self):
        answered = ask([(77, 9)], palette_error([77]), palette_error([0, 255]))
        self.assertEqual(answered, [[0], [693]])

    def test_largest_error(self):
        shades = [(level, 999) for level in range(12)]
        answered = ask(shades, palette_error([255]))
        self.assertEqual(answered, [[999 * (12 * 255 - 66)]])

    def test_no_shades(self):
        answered = ask([], palette_error([0]), palette_error([255] * 12))
        self.assertEqual(answered, [[0], [0]])

    def test_empty_palette(self):
        for shades in (FOUR, []):
            self.assertEqual(ask_one(shades, palette_error([])), [-22])

    def test_too_many_colours(self):
        for shades in (FOUR, []):
            for length in (13, 14, 70):
                self.assertEqual(ask_one(shades, palette_error([20] * length)), [-22], length)

    def test_colour_out_of_range(self):
        for shades in (FOUR, []):
            for colour in (-1, 256, LOWEST, HIGHEST):
                for palette in ([colour], [colour, 20], [20, colour, 100], [20] * 11 + [colour]):
                    self.assertEqual(ask_one(shades, palette_error(palette)), [-22], palette)

    def test_colours_that_look_like_calls(self):
        answered = ask(FOUR, palette_error([0, 15, 14]), min_error(1), palette_error([11, 0]))
        self.assertEqual(answered, [[15 + 15 + 170 + 95], [250], [27 + 19 + 178 + 99]])


if __name__ == "__main__":
    unittest.main()
