"""The calls of one request, read one behind another and answered in order.

Each operation takes the shades of the instance, a list of tuples (level, count) in ascending
order of the levels, and gives back the numbers that it answers; a refusal is one error code.
"""

from fewstones.division import best_division, error_of, error_with_palette, median_of, minimum_error, tiles_of

NO_INSTANCE = -11
NO_SUCH_SHADE = -2
LEVEL_TAKEN = -17
OUT_OF_RANGE = -22
TOO_MANY_SHADES = -28
NO_COLOURS = -33

HIGHEST_BRIGHTNESS = 255
HIGHEST_COUNT = 999
MOST_SHADES = 12
MOST_COLOURS = 12

CREATE = 0
PALETTE_ERROR = 11

# Stands for an error where there is no division; it is no refusal.
NO_DIVISION = -1


def is_brightness(number):
    """Whether the number may be a level or a colour."""
    return 0 <= number <= HIGHEST_BRIGHTNESS


def is_count(count):
    """Whether the count is in its range."""
    return 1 <= count <= HIGHEST_COUNT


def is_palette(palette):
    """Whether the list has so many colours as a palette may have, and nothing else."""
    if len(palette) < 1 or len(palette) > MOST_COLOURS:
        return False
    return all([is_brightness(colour) for colour in palette])


def has_shade(shades, i):
    """Whether there is a shade with this index."""
    return 0 <= i < len(shades)


def colours_fault(shades, k):
    """The error code that k colours for these shades are refused with, or 0."""
    if k < 0 or k > MOST_COLOURS:
        return OUT_OF_RANGE
    if k == 0 and len(shades) > 0:
        return NO_COLOURS
    return 0


def add_shade(shades, level, count):
    """Puts a new shade in its place; answers its index."""
    if not is_brightness(level) or not is_count(count):
        return [OUT_OF_RANGE]
    levels = [shade[0] for shade in shades]
    if level in levels:
        return [LEVEL_TAKEN]
    if len(shades) >= MOST_SHADES:
        return [TOO_MANY_SHADES]
    index = len([darker for darker in levels if darker < level])
    shades.insert(index, (level, count))
    return [index]


def remove_shade(shades, i):
    """Takes shade i away; answers how many remain."""
    if not has_shade(shades, i):
        return [NO_SUCH_SHADE]
    shades.pop(i)
    return [len(shades)]


def set_count(shades, i, count):
    """Changes the count of shade i; answers its previous count."""
    if not has_shade(shades, i):
        return [NO_SUCH_SHADE]
    if not is_count(count):
        return [OUT_OF_RANGE]
    shade = shades[i]
    shades[i] = (shade[0], count)
    return [shade[1]]


def min_error(shades, k):
    """Answers the total error of the best groups for k colours."""
    fault = colours_fault(shades, k)
    if fault < 0:
        return [fault]
    return [minimum_error(shades, k)]


def best_palette(shades, k):
    """Answers the number of best groups for k colours, then their colours."""
    fault = colours_fault(shades, k)
    if fault < 0:
        return [fault]
    colours = [median_of(group) for group in best_division(shades, k)]
    return [len(colours)] + colours


def best_groups(shades, k):
    """Answers the number of best groups for k colours, then size and error of each."""
    fault = colours_fault(shades, k)
    if fault < 0:
        return [fault]
    groups = best_division(shades, k)
    answer = [len(groups)]
    for group in groups:
        answer.append(len(group))
        answer.append(error_of(group))
    return answer


def colour_of(shades, i, k):
    """Answers the colour of the group that shade i is in, in the best groups for k colours."""
    if not has_shade(shades, i):
        return [NO_SUCH_SHADE]
    fault = colours_fault(shades, k)
    if fault < 0:
        return [fault]
    colours = []
    for group in best_division(shades, k):
        colours.extend([median_of(group)] * len(group))
    return [colours[i]]


def error_reduction(shades, k):
    """Answers by how much one colour more than k reduces the minimum error."""
    fault = colours_fault(shades, k)
    if fault < 0:
        return [fault]
    return [minimum_error(shades, k) - minimum_error(shades, k + 1)]


def error_table(shades):
    """Answers the number of shades, then the minimum error for 0, 1, .. up to so many colours."""
    without_colours = 0
    if len(shades) > 0:
        without_colours = NO_DIVISION
    errors = [minimum_error(shades, k) for k in range(1, len(shades) + 1)]
    return [len(shades), without_colours] + errors


def min_colours(shades, max_error):
    """Answers the smallest number of colours for which the minimum error is at most max_error."""
    if max_error < 0:
        return [OUT_OF_RANGE]
    if len(shades) == 0:
        return [0]
    # It ends, as so many colours as there are shades leave no error.
    k = 1
    while minimum_error(shades, k) > max_error:
        k += 1
    return [k]


def palette_error(shades, palette):
    """Answers the error of the shades when each has the nearest colour of the palette."""
    if not is_palette(palette):
        return [OUT_OF_RANGE]
    return [error_with_palette(shades, palette)]


def median(shades, i, j):
    """Answers the median of the shades i to j, then their error with it."""
    if not has_shade(shades, i) or not has_shade(shades, j):
        return [NO_SUCH_SHADE]
    if j < i:
        return [OUT_OF_RANGE]
    group = shades[i:j + 1]
    return [median_of(group), error_of(group)]


def group_counts(shades, k):
    """Answers the number of best groups for k colours, then the number of tiles of each."""
    fault = colours_fault(shades, k)
    if fault < 0:
        return [fault]
    counts = [tiles_of(group) for group in best_division(shades, k)]
    return [len(counts)] + counts


def totals(shades):
    """Answers the number of shades and the number of all tiles."""
    return [len(shades), tiles_of(shades)]


def describe(shades):
    """Answers the number of shades, then level and count of each."""
    answer = [len(shades)]
    for level, count in shades:
        answer.append(level)
        answer.append(count)
    return answer


OPERATIONS = {
    1: add_shade,
    2: remove_shade,
    3: set_count,
    4: min_error,
    5: best_palette,
    6: best_groups,
    7: colour_of,
    8: error_reduction,
    9: error_table,
    10: min_colours,
    11: palette_error,
    12: median,
    13: group_counts,
    14: totals,
    15: describe,
}

# By the number of the call: how many numbers stand behind it, ahead of a list.
PARAMETER_COUNTS = (0, 2, 1, 2, 1, 1, 1, 2, 1, 0, 1, 1, 2, 1, 0, 0)


def end_of_call(calls, place):
    """Where the call that begins at this place ends."""
    call = calls[place]
    end = place + 1 + PARAMETER_COUNTS[call]
    if call == PALETTE_ERROR:
        # The number behind the call tells how many colours follow.
        end += calls[place + 1]
    return end


def answer_of(shades, call, given):
    """What the operation with this number answers to the numbers given with it."""
    operation = OPERATIONS[call]
    if call == PALETTE_ERROR:
        return operation(shades, given[1:])
    if len(given) == 0:
        return operation(shades)
    if len(given) == 1:
        return operation(shades, given[0])
    return operation(shades, given[0], given[1])


def answers(calls):
    """For each call, in order: how many numbers are answered, then these."""
    shades = None
    answered = []
    place = 0
    while place < len(calls):
        call = calls[place]
        end = end_of_call(calls, place)
        if call == CREATE:
            shades = []
            answer = [0]
        elif shades is None:
            answer = [NO_INSTANCE]
        else:
            answer = answer_of(shades, call, calls[place + 1:end])
        answered.append(len(answer))
        answered.extend(answer)
        place = end
    return answered
