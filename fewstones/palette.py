"""The calls of one request, read one behind another and answered in order.

Each operation takes the shades of the instance, a list of tuples (level, count) in ascending
order of the levels, and gives back the numbers that it answers; a refusal is one error code.
"""

from fewstones.division import best_division

NO_INSTANCE = -11
NO_SUCH_SHADE = -2
LEVEL_TAKEN = -17
OUT_OF_RANGE = -22
TOO_MANY_SHADES = -28
NO_COLOURS = -33

HIGHEST_LEVEL = 255
HIGHEST_COUNT = 999
MOST_SHADES = 12
MOST_COLOURS = 12

CREATE = 0


def is_level(level):
    """Whether the level is in its range."""
    return 0 <= level <= HIGHEST_LEVEL


def is_count(count):
    """Whether the count is in its range."""
    return 1 <= count <= HIGHEST_COUNT


def has_shade(shades, i):
    """Whether there is a shade with this index."""
    return 0 <= i < len(shades)


def colours_fault(shades, k):
    """The error code that k colours for these shades are refused with, or 0."""
    if k < 0 or k > MOST_COLOURS:
        return OUT_OF_RANGE
    if k == 0 and len(shades) > 0:
        return NO_COLOURS
    return 0


def add_shade(shades, level, count):
    """Puts a new shade in its place; answers its index."""
    if not is_level(level) or not is_count(count):
        return [OUT_OF_RANGE]
    levels = [shade[0] for shade in shades]
    if level in levels:
        return [LEVEL_TAKEN]
    if len(shades) >= MOST_SHADES:
        return [TOO_MANY_SHADES]
    index = len([darker for darker in levels if darker < level])
    shades.insert(index, (level, count))
    return [index]


def remove_shade(shades, i):
    """Takes shade i away; answers how many remain."""
    if not has_shade(shades, i):
        return [NO_SUCH_SHADE]
    shades.pop(i)
    return [len(shades)]


def set_count(shades, i, count):
    """Changes the count of shade i; answers its previous count."""
    if not has_shade(shades, i):
        return [NO_SUCH_SHADE]
    if not is_count(count):
        return [OUT_OF_RANGE]
    shade = shades[i]
    shades[i] = (shade[0], count)
    return [shade[1]]


def min_error(shades, k):
    """Answers the total error of the best groups for k colours."""
    fault = colours_fault(shades, k)
    if fault < 0:
        return [fault]
    return [sum([error for size, colour, error in best_division(shades, k)])]


def best_palette(shades, k):
    """Answers the number of best groups for k colours, then their colours."""
    fault = colours_fault(shades, k)
    if fault < 0:
        return [fault]
    colours = [colour for size, colour, error in best_division(shades, k)]
    return [len(colours)] + colours


def best_groups(shades, k):
    """Answers the number of best groups for k colours, then size and error of each."""
    fault = colours_fault(shades, k)
    if fault < 0:
        return [fault]
    groups = best_division(shades, k)
    answer = [len(groups)]
    for size, colour, error in groups:
        answer.append(size)
        answer.append(error)
    return answer


def colour_of(shades, i, k):
    """Answers the colour of the group that shade i is in, in the best groups for k colours."""
    if not has_shade(shades, i):
        return [NO_SUCH_SHADE]
    fault = colours_fault(shades, k)
    if fault < 0:
        return [fault]
    colours = []
    for size, colour, error in best_division(shades, k):
        colours.extend([colour] * size)
    return [colours[i]]


OPERATIONS = {
    1: add_shade,
    2: remove_shade,
    3: set_count,
    4: min_error,
    5: best_palette,
    6: best_groups,
    7: colour_of,
}

# By the number of the call: how many numbers stand behind it.
PARAMETER_COUNTS = (0, 2, 1, 2, 1, 1, 1, 2)


def answer_of(shades, call, given):
    """What the operation with this number answers to the numbers given with it."""
    operation = OPERATIONS[call]
    if len(given) == 1:
        return operation(shades, given[0])
    return operation(shades, given[0], given[1])


def answers(calls):
    """For each call, in order: how many numbers are answered, then these."""
    shades = None
    answered = []
    place = 0
    while place < len(calls):
        call = calls[place]
        behind = place + 1 + PARAMETER_COUNTS[call]
        if call == CREATE:
            shades = []
            answer = [0]
        elif shades is None:
            answer = [NO_INSTANCE]
        else:
            answer = answer_of(shades, call, calls[place + 1:behind])
        answered.append(len(answer))
        answered.extend(answer)
        place = behind
    return answered
