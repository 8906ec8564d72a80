"""min_error, best_palette, best_groups and colour_of: answers, ties and errors."""

import unittest

from helper import (
    HIGHEST, LOWEST, ask, ask_one, best_groups, best_palette, colour_of, min_error, picture,
    request, state_after,
)

FOUR = [(20, 3), (30, 1), (100, 2), (110, 1)]
TWELVE = [(20 * number, 1 + number) for number in range(12)]


def of_k_colours(k):
    return [min_error(k), best_palette(k), best_groups(k)]


class OrdinaryTest(unittest.TestCase):
    def test_min_error(self):
        answered = ask(FOUR, min_error(1), min_error(2), min_error(3), min_error(4))
        self.assertEqual(answered, [[250], [20], [10], [0]])

    def test_best_palette(self):
        answered = ask(FOUR, best_palette(1), best_palette(2), best_palette(3), best_palette(4))
        self.assertEqual(
            answered, [[1, 30], [2, 20, 100], [3, 20, 30, 100], [4, 20, 30, 100, 110]])

    def test_best_groups(self):
        answered = ask(FOUR, best_groups(1), best_groups(2), best_groups(3), best_groups(4))
        self.assertEqual(answered, [
            [1, 4, 250], [2, 2, 10, 2, 10], [3, 1, 0, 1, 0, 2, 10], [4, 1, 0, 1, 0, 1, 0, 1, 0]])

    def test_colour_of(self):
        answered = ask(FOUR, *[colour_of(i, 2) for i in range(4)])
        self.assertEqual(answered, [[20], [20], [100], [100]])
        answered = ask(FOUR, *[colour_of(i, 3) for i in range(4)])
        self.assertEqual(answered, [[20], [30], [100], [100]])
        answered = ask(FOUR, *[colour_of(i, 1) for i in range(4)])
        self.assertEqual(answered, [[30], [30], [30], [30]])

    def test_largest_error(self):
        shades = [(0, 999), (255, 999)]
        answered = ask(shades, *of_k_colours(1))
        self.assertEqual(answered, [[254745], [1, 0], [1, 2, 254745]])

    def test_after_each_of_them_the_shades_are_the_same(self):
        for call in of_k_colours(2) + [colour_of(3, 2), best_groups(12)]:
            with self.subTest(call=call):
                self.assertEqual(state_after(picture(FOUR) + [call]), FOUR)

    def test_asked_twice_they_answer_the_same(self):
        calls = of_k_colours(2) + of_k_colours(3) + [colour_of(1, 2)]
        answered = ask(FOUR, *(calls + calls))
        self.assertEqual(answered[:len(calls)], answered[len(calls):])


class NumberOfColoursTest(unittest.TestCase):
    def test_no_shades(self):
        for k in (0, 1, 12):
            self.assertEqual(ask([], *of_k_colours(k)), [[0], [0], [0]], k)

    def test_no_shades_and_k_out_of_range(self):
        for k in (-1, 13, LOWEST, HIGHEST):
            self.assertEqual(ask([], *of_k_colours(k)), [[-22], [-22], [-22]], k)

    def test_no_colours_for_shades(self):
        for shades in (FOUR, FOUR[:1], TWELVE):
            self.assertEqual(ask(shades, *of_k_colours(0)), [[-33], [-33], [-33]])

    def test_k_out_of_range(self):
        for k in (-1, 13, LOWEST, HIGHEST):
            self.assertEqual(ask(FOUR, *of_k_colours(k)), [[-22], [-22], [-22]], k)

    def test_more_colours_than_shades(self):
        for k in (5, 12):
            self.assertEqual(ask(FOUR, *of_k_colours(k)), ask(FOUR, *of_k_colours(4)), k)
        self.assertEqual(ask_one(FOUR, colour_of(3, 12)), [110])

    def test_one_shade(self):
        answered = ask([(77, 9)], *(of_k_colours(1) + [colour_of(0, 12)]))
        self.assertEqual(answered, [[0], [1, 77], [1, 1, 0], [77]])

    def test_as_many_colours_as_twelve_shades(self):
        levels = [level for level, count in TWELVE]
        answered = ask(TWELVE, *of_k_colours(12))
        self.assertEqual(answered, [[0], [12] + levels, [12] + [1, 0] * 12])
        self.assertEqual(ask_one(TWELVE, min_error(11)), [20])


class ColourOfErrorsTest(unittest.TestCase):
    def test_no_such_shade(self):
        for i in (-1, 4, LOWEST, HIGHEST):
            self.assertEqual(ask_one(FOUR, colour_of(i, 2)), [-2], i)
        self.assertEqual(ask_one([], colour_of(0, 1)), [-2])

    def test_k_out_of_range(self):
        for k in (-1, 13, LOWEST, HIGHEST):
            self.assertEqual(ask_one(FOUR, colour_of(3, k)), [-22], k)

    def test_no_colours(self):
        self.assertEqual(ask_one(FOUR, colour_of(0, 0)), [-33])

    def test_order_of_errors(self):
        self.assertEqual(ask_one(FOUR, colour_of(4, 13)), [-2])
        self.assertEqual(ask_one(FOUR, colour_of(-1, 0)), [-2])
        self.assertEqual(ask_one([], colour_of(0, 0)), [-2])
        self.assertEqual(ask_one([], colour_of(0, -1)), [-2])


class MedianTest(unittest.TestCase):
    def median(self, *shades):
        return ask_one(list(shades), best_palette(1))

    def test_just_half_is_enough(self):
        self.assertEqual(self.median((10, 1), (20, 1)), [1, 10])
        self.assertEqual(self.median((10, 2), (20, 1), (30, 1)), [1, 10])
        self.assertEqual(self.median((10, 1), (20, 1), (30, 1), (40, 1)), [1, 20])
        self.assertEqual(self.median((0, 499), (1, 500), (2, 999)), [1, 1])

    def test_one_less_than_half_is_not(self):
        self.assertEqual(self.median((10, 2), (20, 3)), [1, 20])
        self.assertEqual(self.median((10, 1), (20, 1), (30, 3)), [1, 30])
        self.assertEqual(self.median((0, 499), (1, 499), (2, 999)), [1, 2])

    def test_one_more_than_half(self):
        self.assertEqual(self.median((10, 3), (20, 2)), [1, 10])
        self.assertEqual(self.median((10, 1), (20, 1), (30, 1)), [1, 20])


class TieTest(unittest.TestCase):
    def check(self, shades, k, error, palette, groups):
        answered = ask(shades, *of_k_colours(k))
        self.assertEqual(answered, [[error], palette, groups])

    def test_first_group_is_the_smaller(self):
        self.check([(0, 1), (10, 1), (20, 1)], 2, 10, [2, 0, 10], [2, 1, 0, 2, 10])

    def test_first_group_decides_ahead_of_the_others(self):
        shades = [(0, 1), (10, 1), (100, 1), (110, 1), (120, 1)]
        self.check(shades, 3, 20, [3, 0, 10, 110], [3, 1, 0, 1, 0, 3, 20])

    def test_second_group_decides_where_the_first_is_the_same(self):
        shades = [(0, 1), (1, 1), (100, 1), (110, 1), (120, 1)]
        self.check(shades, 3, 11, [3, 0, 100, 110], [3, 2, 1, 1, 0, 2, 10])

    def test_the_smaller_error_goes_ahead_of_the_smaller_group(self):
        self.check([(0, 1), (9, 1), (20, 1)], 2, 9, [2, 0, 20], [2, 2, 9, 1, 0])

    def test_even_steps(self):
        shades = [(10 * number, 1) for number in range(6)]
        self.check(shades, 4, 20, [4, 0, 10, 20, 40], [4, 1, 0, 1, 0, 1, 0, 3, 20])
        self.assertEqual(
            request(picture(shades) + [colour_of(i, 4) for i in range(6)])[7:],
            [[0], [10], [20], [40], [40], [40]])


if __name__ == "__main__":
    unittest.main()
