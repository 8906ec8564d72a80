"""The best groups against a plain search, and the document's requirements on small pictures."""

import itertools
import random
import unittest

from helper import ask, best_groups, best_palette, colour_of, min_error


def sizes_of_all_divisions(number, most):
    """The sizes of the groups, for each way to divide so many shades into at most so many groups."""
    if number == 0:
        return [[]]
    if most == 0:
        return []
    return [
        [size] + rest
        for size in range(1, number + 1)
        for rest in sizes_of_all_divisions(number - size, most - 1)
    ]


def plain_median(group):
    """The middle one of all tiles in a row, the darker one of two."""
    tiles = [level for level, count in group for tile in range(count)]
    return tiles[(len(tiles) - 1) // 2]


def plain_error(group, colour):
    return sum(count * abs(level - colour) for level, count in group)


def plain_groups(shades, sizes):
    """The shades divided into groups with these sizes."""
    rest = list(shades)
    groups = []
    for size in sizes:
        groups.append(rest[:size])
        rest = rest[size:]
    return groups


def plain_search(shades, k):
    """Size, colour and error of each best group, found among all divisions."""
    best = None
    for sizes in sizes_of_all_divisions(len(shades), k):
        found = [
            (len(group), plain_median(group), plain_error(group, plain_median(group)))
            for group in plain_groups(shades, sizes)
        ]
        total = sum(error for size, colour, error in found)
        if best is None or (total, sizes) < (best[0], best[1]):
            best = (total, sizes, found)
    return best[2]


def expected_answers(shades, k):
    found = plain_search(shades, k)
    colours = [colour for size, colour, error in found]
    by_shade = [[colour] for size, colour, error in found for shade in range(size)]
    groups = [number for size, colour, error in found for number in (size, error)]
    total = sum(error for size, colour, error in found)
    return [[total], [len(found)] + colours, [len(found)] + groups] + by_shade


def given_answers(shades, k):
    each = [colour_of(i, k) for i in range(len(shades))]
    return ask(shades, min_error(k), best_palette(k), best_groups(k), *each)


def small_pictures():
    """All pictures of up to four shades from a few levels, with counts of 1 to 3."""
    for number in range(5):
        for levels in itertools.combinations((0, 1, 2, 4, 5), number):
            for counts in itertools.product((1, 2, 3), repeat=number):
                yield list(zip(levels, counts))


def drawn_pictures():
    """The same larger pictures each time; few levels and low counts give many ties."""
    draw = random.Random(20)
    for number in range(5, 10):
        for most_level, most_count in ((12, 2), (20, 5), (255, 30)):
            for again in range(4):
                levels = sorted(draw.sample(range(most_level + 1), number))
                yield [(level, draw.randint(1, most_count)) for level in levels]


class SearchTest(unittest.TestCase):
    def check(self, shades, k):
        self.assertEqual(given_answers(shades, k), expected_answers(shades, k), (shades, k))

    def test_all_small_pictures(self):
        for shades in small_pictures():
            for k in range(1, len(shades) + 2):
                self.check(shades, k)

    def test_drawn_pictures(self):
        for shades in drawn_pictures():
            for k in range(1, len(shades) + 1):
                self.check(shades, k)

    def test_twelve_shades(self):
        for shades in (
            [(level, 1) for level in range(0, 240, 20)],
            [(level, 1 + level % 3) for level in range(12)],
            [(level, 2) for level in range(244, 256)],
        ):
            for k in (1, 2, 5, 6, 11, 12):
                self.check(shades, k)


class RequirementsTest(unittest.TestCase):
    def errors(self, shades):
        """The minimum errors for 1 to 12 colours."""
        return [answer[0] for answer in ask(shades, *[min_error(k) for k in range(1, 13)])]

    def test_no_palette_has_a_smaller_error(self):
        shades = [(0, 2), (1, 1), (3, 3), (6, 1), (7, 2)]
        for k in (1, 2, 3, 4):
            smallest = min(
                sum(count * min(abs(level - c) for c in colours) for level, count in shades)
                for colours in itertools.combinations(range(9), k)
            )
            error, palette = ask(shades, min_error(k), best_palette(k))
            own = sum(
                count * min(abs(level - c) for c in palette[1:]) for level, count in shades)
            self.assertLessEqual(palette[0], k)
            self.assertEqual([own, error], [smallest, [smallest]])

    def test_each_colour_more_reduces_the_error_by_less(self):
        for shades in drawn_pictures():
            errors = self.errors(shades)
            steps = [before - after for before, after in zip(errors, errors[1:])]
            self.assertGreaterEqual(min(steps), 0)
            self.assertEqual(steps, sorted(steps, reverse=True))

    def test_no_colour_is_better_than_the_median(self):
        for shades in drawn_pictures():
            smallest = min(plain_error(shades, colour) for colour in range(256))
            self.assertEqual(self.errors(shades)[0], smallest)

    def test_as_many_colours_as_shades_leave_no_error(self):
        for shades in drawn_pictures():
            errors = self.errors(shades)
            self.assertEqual(errors[len(shades) - 1:], [0] * (13 - len(shades)))


if __name__ == "__main__":
    unittest.main()
