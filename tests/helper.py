"""Writes calls as lists of numbers, and reads the answers call by call."""

from gluetilesdesk.board import answers

HUGE = 4294967295


def create(width, height, threshold):
    return [0, width, height, threshold]


def add_tile_type(*glues):
    return [1, len(glues), *glues]


def set_strength(glue, strength):
    return [2, glue, strength]


def set_threshold(threshold):
    return [3, threshold]


def add_seed(x, y, kind):
    return [4, x, y, kind]


def remove_seed(x, y):
    return [5, x, y]


def attach(x, y, kind):
    return [6, x, y, kind]


UNDO = [7]
CLEAR = [8]
GROW = [9]
ROUNDS = [10]

# Each call once, with numbers that are in its limits where it has limits of its own.
EVERY_CALL_BUT_CREATE = (
    [1, 4, 0, 1, 2, 3], [2, 1, 1], [3, 1], [4, 0, 0, 0], [5, 0, 0], [6, 0, 0, 0], [7], [8], [9], [10], [11],
    [12, 0], [13], [14], [15], [16], [17], [18, 0, 0], [19, 0, 0], [20], [21],
)


def joined(calls):
    return [number for call in calls for number in call]


def split_answers(written):
    """The numbers of each answer, without their count."""
    found = []
    at = 0
    while at < len(written):
        end = at + 1 + written[at]
        if end > len(written):
            raise AssertionError(f"an answer is cut off: {written}")
        found.append(written[at + 1:end])
        at = end
    return found


def ask(*calls):
    """The answers to calls that each answer one number: these numbers."""
    split = split_answers(answers(joined(calls)))
    if [len(numbers) for numbers in split] != [1] * len(calls):
        raise AssertionError(f"not one number for each of {len(calls)} calls: {split}")
    return [numbers[0] for numbers in split]


def last(*calls):
    return ask(*calls)[-1]


# A row of three: kind 0 is the seed, kind 1 binds to its east, kind 2 to the east of kind 1.
ROW = (
    create(3, 1, 1),
    add_tile_type(0, 1, 0, 0),
    add_tile_type(0, 2, 0, 1),
    add_tile_type(0, 0, 0, 2),
    add_seed(0, 0, 0),
)
