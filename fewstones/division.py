"""Medians, errors, and the best groups: the division of the shades with the smallest total error.

Shades are a list in ascending order of the levels; each shade is a tuple (level, count).
"""


def tiles_of(group):
    """The number of tiles that have the shades of the group."""
    return sum([count for level, count in group])


def median_of(group):
    """The first level at which the counts add up to at least half of all counts of the group."""
    total = tiles_of(group)
    place = 0
    reached = group[0][1]
    # Doubled instead of halved, so that an odd total stays exact.
    while 2 * reached < total:
        place += 1
        reached += group[place][1]
    return group[place][0]


def error_of(group):
    """The error of the group with its median."""
    colour = median_of(group)
    return sum([count * abs(level - colour) for level, count in group])


def errors_of_groups(shades):
    """The error of every possible group: by its first shade, then by its size less one."""
    errors = []
    for first in range(len(shades)):
        row = []
        for behind in range(first + 1, len(shades) + 1):
            row.append(error_of(shades[first:behind]))
        errors.append(row)
    return errors


def with_one_group_more(errors, rests):
    """The best divisions of all rests of the shades, when one group more than in rests is allowed.

    A rest is all shades from a first one on. Each division is a tuple (total error, sizes of
    the groups) under the number of that first shade; a rest without a division is left out.
    """
    end = len(errors)
    divisions = {end: (0, [])}
    for first in range(end):
        found = []
        for behind in range(first + 1, end + 1):
            if behind in rests:
                size = behind - first
                rest = rests[behind]
                found.append((errors[first][size - 1] + rest[0], [size] + rest[1]))
        # Tuples are compared in the order that tells ties apart: the error, then size by size.
        divisions[first] = min(found)
    return divisions


def best_sizes(shades, k):
    """The numbers of shades in the best groups for k colours; with shades, k is at least 1."""
    errors = errors_of_groups(shades)
    # Without a colour only the rest that has no shades can be divided.
    divisions = {len(shades): (0, [])}
    for group in range(k):
        divisions = with_one_group_more(errors, divisions)
    return divisions[0][1]


def best_division(shades, k):
    """The best groups for k colours, in ascending order, each with its shades."""
    groups = []
    first = 0
    for size in best_sizes(shades, k):
        groups.append(shades[first:first + size])
        first += size
    return groups


def minimum_error(shades, k):
    """The total error of the best groups for k colours; with shades, k is at least 1."""
    return sum([error_of(group) for group in best_division(shades, k)])


def distance(level, palette):
    """How far the level is from the nearest colour of the palette."""
    return min([abs(level - colour) for colour in palette])


def error_with_palette(shades, palette):
    """The error of the shades when each has the nearest colour of the palette."""
    return sum([count * distance(level, palette) for level, count in shades])
