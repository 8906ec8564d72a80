"""What the tests share: calls by their names, and answers taken apart call by call."""

from fewstones.palette import answers

LOWEST = -2147483648
HIGHEST = 2147483647


def create():
    return [0]


def add_shade(level, count):
    return [1, level, count]


def remove_shade(i):
    return [2, i]


def set_count(i, count):
    return [3, i, count]


def min_error(k):
    return [4, k]


def best_palette(k):
    return [5, k]


def best_groups(k):
    return [6, k]


def colour_of(i, k):
    return [7, i, k]


def error_reduction(k):
    return [8, k]


def error_table():
    return [9]


def min_colours(max_error):
    return [10, max_error]


def palette_error(palette):
    return [11, len(palette)] + list(palette)


def median(i, j):
    return [12, i, j]


def group_counts(k):
    return [13, k]


def totals():
    return [14]


def describe():
    return [15]


def in_one_list(calls):
    return [number for call in calls for number in call]


def taken_apart(answered):
    """The answers call by call; fails where the counts don't fit the list."""
    apart = []
    place = 0
    while place < len(answered):
        behind = place + 1 + answered[place]
        if answered[place] < 1 or behind > len(answered):
            raise AssertionError(f"count at {place} doesn't fit {answered}")
        apart.append(answered[place + 1:behind])
        place = behind
    return apart


def request(calls):
    """The answers to these calls, one list for each of them."""
    if not 1 <= len(calls) <= 60:
        raise AssertionError(f"no request has {len(calls)} calls")
    apart = taken_apart(answers(in_one_list(calls)))
    if len(apart) != len(calls):
        raise AssertionError(f"{len(calls)} calls, but {len(apart)} answers")
    return apart


def picture(shades):
    """The calls that make an instance with these shades, each (level, count)."""
    return [create()] + [add_shade(level, count) for level, count in shades]


def ask(shades, *calls):
    """The answers to these calls on an instance with these shades."""
    making = picture(shades)
    return request(making + list(calls))[len(making):]


def ask_one(shades, call):
    return ask(shades, call)[0]


def state_after(calls):
    """The shades after these calls, as (level, count) in ascending order."""
    described = request(calls + [describe()])[-1]
    shades = list(zip(described[1::2], described[2::2]))
    if described != [len(shades)] + [number for shade in shades for number in shade]:
        raise AssertionError(f"no list of shades: {described}")
    return shades
