"""The best groups against a plain search, and the document's requirements on small pictures."""

import itertools
import random
import unittest

from helper import (
    ask, ask_one, best_groups, best_palette, colour_of, describe, error_reduction, error_table,
    group_counts, median, min_colours, min_error, palette_error,
)


def sizes_of_all_divisions(number, most):
    """The sizes of the groups, for each way to divide so many shades into at most so many groups."""
    if number == 0:
        return [[]]
    if most == 0:
        return []
    return [
        [size] + rest
        for size in range(1, number + 1)
        for rest in sizes_of_all_divisions(number - size, most - 1)
    ]


def plain_median(group):
    """The middle one of all tiles in a row, the darker one of two."""
    tiles = [level for level, count in group for tile in range(count)]
    return tiles[(len(tiles) - 1) // 2]


def plain_error(group, colour):
    return sum(count * abs(level - colour) for level, count in group)


def plain_groups(shades, sizes):
    """The shades divided into groups with these sizes."""
    rest = list(shades)
    groups = []
    for size in sizes:
        groups.append(rest[:size])
        rest = rest[size:]
    return groups


def plain_search(shades, k):
    """Size, colour and error of each best group, found among all divisions."""
    best = None
    for sizes in sizes_of_all_divisions(len(shades), k):
        found = [
            (len(group), plain_median(group), plain_error(group, plain_median(group)))
            for group in plain_groups(shades, sizes)
        ]
        total = sum(error for size, colour, error in found)
        if best is None or (total, sizes) < (best[0], best[1]):
            best = (total, sizes, found)
    return best[2]


def expected_answers(shades, k):
    found = plain_search(shades, k)
    colours = [colour for size, colour, error in found]
    by_shade = [[colour] for size, colour, error in found for shade in range(size)]
    groups = [number for size, colour, error in found for number in (size, error)]
    total = sum(error for size, colour, error in found)
    sizes = [size for size, colour, error in found]
    tiles = [sum(count for level, count in group) for group in plain_groups(shades, sizes)]
    return [[total], [len(found)] + colours, [len(found)] + groups, [len(found)] + tiles] + by_shade


def given_answers(shades, k):
    each = [colour_of(i, k) for i in range(len(shades))]
    return ask(shades, min_error(k), best_palette(k), best_groups(k), group_counts(k), *each)


def plain_errors(shades):
    """The minimum errors for 1 colour, 2 colours and so on, up to as many as there are shades."""
    return [
        sum(error for size, colour, error in plain_search(shades, k))
        for k in range(1, len(shades) + 1)
    ]


def plain_palette_error(shades, palette):
    return sum(count * min(abs(level - colour) for colour in palette) for level, count in shades)


def first_and_last(shades):
    """Every pair of a first and a last shade."""
    return list(itertools.combinations_with_replacement(range(len(shades)), 2))


def small_pictures():
    """All pictures of up to four shades from a few levels, with counts of 1 to 3."""
    for number in range(5):
        for levels in itertools.combinations((0, 1, 2, 4, 5), number):
            for counts in itertools.product((1, 2, 3), repeat=number):
                yield list(zip(levels, counts))


def drawn_pictures():
    """The same larger pictures each time; few levels and low counts give many ties."""
    draw = random.Random(20)
    for number in range(5, 10):
        for most_level, most_count in ((12, 2), (20, 5), (255, 30)):
            for again in range(4):
                levels = sorted(draw.sample(range(most_level + 1), number))
                yield [(level, draw.randint(1, most_count)) for level in levels]


class SearchTest(unittest.TestCase):
    def check(self, shades, k):
        self.assertEqual(given_answers(shades, k), expected_answers(shades, k), (shades, k))

    def test_all_small_pictures(self):
        for shades in small_pictures():
            for k in range(1, len(shades) + 2):
                self.check(shades, k)

    def test_drawn_pictures(self):
        for shades in drawn_pictures():
            for k in range(1, len(shades) + 1):
                self.check(shades, k)

    def test_twelve_shades(self):
        for shades in (
            [(level, 1) for level in range(0, 240, 20)],
            [(level, 1 + level % 3) for level in range(12)],
            [(level, 2) for level in range(244, 256)],
        ):
            for k in (1, 2, 5, 6, 11, 12):
                self.check(shades, k)


class ErrorsAgainstSearchTest(unittest.TestCase):
    def check_errors(self, shades):
        errors = plain_errors(shades)
        reductions = [before - after for before, after in zip(errors, errors[1:] + [0])]
        calls = [error_reduction(k) for k in range(1, len(shades) + 1)]
        self.assertEqual(ask(shades, *calls), [[reduction] for reduction in reductions], shades)
        zero = -1 if shades else 0
        self.assertEqual(ask_one(shades, error_table()), [len(shades), zero] + errors, shades)

    def test_small_pictures(self):
        for shades in small_pictures():
            self.check_errors(shades)

    def test_drawn_pictures(self):
        for shades in drawn_pictures():
            self.check_errors(shades)

    def test_medians(self):
        for shades in itertools.chain(small_pictures(), drawn_pictures()):
            pairs = first_and_last(shades)
            answered = ask(shades, *[median(i, j) for i, j in pairs])
            for (i, j), answer in zip(pairs, answered):
                group = shades[i:j + 1]
                level = plain_median(group)
                self.assertEqual(answer, [level, plain_error(group, level)], (shades, i, j))

    def test_palette_errors(self):
        draw = random.Random(11)
        for shades in drawn_pictures():
            palettes = [
                [draw.randint(0, 255) for colour in range(length)] for length in range(1, 13)]
            answered = ask(shades, *[palette_error(palette) for palette in palettes])
            self.assertEqual(
                answered, [[plain_palette_error(shades, palette)] for palette in palettes])


class RequirementsTest(unittest.TestCase):
    def errors(self, shades):
        """The minimum errors for 1 to 12 colours."""
        return [answer[0] for answer in ask(shades, *[min_error(k) for k in range(1, 13)])]

    def test_1_palette_error_of_the_best_palette_is_the_minimum_error(self):
        for shades in drawn_pictures():
            for k in (1, 2, 3, 6, 12):
                error, palette = ask(shades, min_error(k), best_palette(k))
                self.assertEqual(palette[0], len(palette) - 1)
                self.assertIn(palette[0], range(1, k + 1))
                self.assertEqual(palette[1:], sorted(palette[1:]))
                self.assertEqual(ask_one(shades, palette_error(palette[1:])), error)

    def test_1_no_palette_has_a_smaller_error(self):
        shades = [(0, 2), (1, 1), (3, 3), (6, 1), (7, 2)]
        for k in (1, 2, 3, 4):
            palettes = list(itertools.combinations_with_replacement(range(9), k))
            errors = []
            for begin in range(0, len(palettes), 50):
                calls = [palette_error(palette) for palette in palettes[begin:begin + 50]]
                errors.extend(ask(shades, *calls))
            self.assertEqual(min(errors), ask_one(shades, min_error(k)))

    def test_2_each_colour_more_reduces_the_error_by_less(self):
        for shades in drawn_pictures():
            errors = self.errors(shades)
            steps = [before - after for before, after in zip(errors, errors[1:])]
            self.assertGreaterEqual(min(steps), 0)
            self.assertEqual(steps, sorted(steps, reverse=True))
            reductions = ask(shades, *[error_reduction(k) for k in range(1, 13)])
            self.assertEqual(reductions, [[step] for step in steps + [0]])

    def test_3_no_colour_is_better_than_the_median(self):
        for shades in drawn_pictures():
            for i, j in first_and_last(shades):
                answer = ask_one(shades, median(i, j))
                group = shades[i:j + 1]
                self.assertEqual(answer[1], plain_error(group, answer[0]))
                self.assertEqual(answer[1], min(plain_error(group, c) for c in range(256)))

    def test_4_as_many_colours_as_shades_leave_no_error(self):
        for shades in drawn_pictures():
            errors = self.errors(shades)
            self.assertEqual(errors[len(shades) - 1:], [0] * (13 - len(shades)))
            self.assertEqual(ask_one(shades, error_table())[-1], 0)

    def test_5_smallest_number_of_colours(self):
        for shades in drawn_pictures():
            errors = self.errors(shades)
            for allowed in sorted({0, 1} | set(errors) | {max(0, error - 1) for error in errors}):
                k = ask_one(shades, min_colours(allowed))[0]
                self.assertLessEqual(errors[k - 1], allowed)
                self.assertTrue(all(error > allowed for error in errors[:k - 1]))
                self.assertGreaterEqual(k, 1)

    def test_6_queries_and_refusals_leave_the_instance_unchanged(self):
        for shades in drawn_pictures():
            calls = [
                call(k) for k in (0, 1, 5, 13) for call in (
                    min_error, best_palette, best_groups, error_reduction, group_counts)
            ] + [
                colour_of(4, 3), colour_of(12, 3), error_table(), min_colours(3), min_colours(-1),
                palette_error([9, 3]), palette_error([]), median(1, 3), median(3, 1),
            ]
            described = ask(shades, *(calls + [describe()]))[-1]
            numbers = [number for shade in shades for number in shade]
            self.assertEqual(described, [len(shades)] + numbers)


if __name__ == "__main__":
    unittest.main()
