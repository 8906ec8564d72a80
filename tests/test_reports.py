"""median, group_counts, totals and describe: answers, edges and errors."""

import unittest

from helper import (
    HIGHEST, LOWEST, add_shade, ask, ask_one, create, describe, group_counts, median,
    picture, remove_shade, request, set_count, totals,
)

FOUR = [(20, 3), (30, 1), (100, 2), (110, 1)]
TWELVE = [(20 * number, 1 + number) for number in range(12)]


class MedianTest(unittest.TestCase):
    def test_all_shades(self):
        self.assertEqual(ask_one(FOUR, median(0, 3)), [30, 250])

    def test_some_of_the_shades(self):
        answered = ask(FOUR, median(0, 1), median(0, 2), median(1, 2), median(1, 3), median(2, 3))
        self.assertEqual(answered, [[20, 10], [20, 170], [100, 70], [100, 80], [100, 10]])

    def test_one_shade_of_several(self):
        answered = ask(FOUR, *[median(i, i) for i in range(4)])
        self.assertEqual(answered, [[20, 0], [30, 0], [100, 0], [110, 0]])

    def test_the_only_shade(self):
        self.assertEqual(ask_one([(77, 9)], median(0, 0)), [77, 0])

    def test_twelve_shades(self):
        self.assertEqual(ask_one(TWELVE, median(0, 11)), [160, 3760])
        self.assertEqual(ask_one(TWELVE, median(11, 11)), [220, 0])

    def test_just_half_of_the_counts_is_enough(self):
        shades = [(0, 500), (10, 100), (20, 400), (30, 999), (255, 1)]
        answered = ask(shades, median(0, 2), median(0, 3), median(1, 2), median(2, 4))
        self.assertEqual(answered, [[0, 9000], [20, 500 * 20 + 1000 + 9990], [20, 1000],
                                    [30, 4000 + 225]])
        answered = ask([(0, 999), (255, 999)], median(0, 1))
        self.assertEqual(answered, [[0, 254745]])

    def test_no_such_shade(self):
        for number in (-1, 4, LOWEST, HIGHEST):
            answered = ask(FOUR, median(number, 3), median(0, number), median(number, number))
            self.assertEqual(answered, [[-2], [-2], [-2]], number)
        self.assertEqual(ask_one([], median(0, 0)), [-2])

    def test_last_ahead_of_first(self):
        answered = ask(FOUR, median(1, 0), median(3, 0), median(3, 2))
        self.assertEqual(answered, [[-22], [-22], [-22]])

    def test_order_of_errors(self):
        answered = ask(FOUR, median(4, 0), median(0, -1), median(HIGHEST, LOWEST), median(5, 4))
        self.assertEqual(answered, [[-2], [-2], [-2], [-2]])
        self.assertEqual(ask_one([], median(1, 0)), [-2])

    def test_shade_that_was_removed(self):
        answered = ask(FOUR, remove_shade(0), median(0, 2), median(0, 3))
        self.assertEqual(answered, [[3], [100, 80], [-2]])


class GroupCountsTest(unittest.TestCase):
    def test_ordinary(self):
        answered = ask(FOUR, *[group_counts(k) for k in (1, 2, 3, 4)])
        self.assertEqual(answered, [[1, 7], [2, 4, 3], [3, 3, 1, 3], [4, 3, 1, 2, 1]])

    def test_ties_are_told_apart_by_the_numbers_of_shades(self):
        shades = [(0, 5), (10, 5), (20, 5)]
        self.assertEqual(ask_one(shades, group_counts(2)), [2, 5, 10])

    def test_more_colours_than_shades(self):
        for k in (4, 5, 12):
            self.assertEqual(ask_one(FOUR, group_counts(k)), [4, 3, 1, 2, 1], k)

    def test_one_shade(self):
        answered = ask([(77, 9)], group_counts(1), group_counts(12))
        self.assertEqual(answered, [[1, 9], [1, 9]])

    def test_twelve_shades(self):
        answered = ask(TWELVE, group_counts(1), group_counts(12))
        self.assertEqual(answered, [[1, 78], [12] + list(range(1, 13))])
        most = [(level, 999) for level in range(12)]
        self.assertEqual(ask_one(most, group_counts(1)), [1, 11988])

    def test_no_shades(self):
        answered = ask([], group_counts(0), group_counts(1), group_counts(12))
        self.assertEqual(answered, [[0], [0], [0]])

    def test_k_out_of_range(self):
        for shades in (FOUR, []):
            for k in (-1, 13, LOWEST, HIGHEST):
                self.assertEqual(ask_one(shades, group_counts(k)), [-22], k)

    def test_no_colours_for_shades(self):
        for shades in (FOUR, FOUR[:1], TWELVE):
            self.assertEqual(ask_one(shades, group_counts(0)), [-33])


class TotalsTest(unittest.TestCase):
    def test_ordinary(self):
        self.assertEqual(ask_one(FOUR, totals()), [4, 7])

    def test_no_shades(self):
        self.assertEqual(ask_one([], totals()), [0, 0])

    def test_one_shade(self):
        self.assertEqual(ask_one([(0, 999)], totals()), [1, 999])

    def test_twelve_shades(self):
        self.assertEqual(ask_one(TWELVE, totals()), [12, 78])
        self.assertEqual(ask_one([(level, 999) for level in range(12)], totals()), [12, 11988])

    def test_after_changes(self):
        answered = ask(
            FOUR, set_count(0, 13), totals(), remove_shade(2), totals(), add_shade(5, 4), totals())
        self.assertEqual(answered, [[3], [4, 17], [3], [3, 15], [0], [4, 19]])


class DescribeTest(unittest.TestCase):
    def test_in_ascending_order_of_the_levels(self):
        calls = [create(), add_shade(100, 2), add_shade(20, 3), add_shade(110, 1), add_shade(30, 1)]
        self.assertEqual(request(calls + [describe()])[-1], [4, 20, 3, 30, 1, 100, 2, 110, 1])

    def test_no_shades(self):
        self.assertEqual(ask_one([], describe()), [0])

    def test_one_shade(self):
        self.assertEqual(ask_one([(0, 1)], describe()), [1, 0, 1])
        self.assertEqual(ask_one([(255, 999)], describe()), [1, 255, 999])

    def test_twelve_shades(self):
        numbers = [number for shade in TWELVE for number in shade]
        self.assertEqual(ask_one(TWELVE, describe()), [12] + numbers)

    def test_after_changes(self):
        answered = ask(
            FOUR, set_count(3, 50), describe(), remove_shade(0), describe(), add_shade(255, 8),
            describe())
        self.assertEqual(answered[1::2], [
            [4, 20, 3, 30, 1, 100, 2, 110, 50], [3, 30, 1, 100, 2, 110, 50],
            [4, 30, 1, 100, 2, 110, 50, 255, 8]])

    def test_after_a_second_create(self):
        self.assertEqual(request(picture(FOUR) + [create(), describe(), totals()])[-2:],
                         [[0], [0, 0]])


if __name__ == "__main__":
    unittest.main()
