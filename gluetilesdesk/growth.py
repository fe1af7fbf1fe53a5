"""Bonds between tiles, and how a grid grows by them."""

from gluetilesdesk.instance import EMPTY

NORTH = 0
EAST = 1
SOUTH = 2
WEST = 3


# For each neighbour: its position, the side that faces it, and its own side that faces back.
def neighbours(instance, position):
    width = instance.width
    x = position % width
    y = position // width
    found = []
    if y + 1 < instance.height:
        found.append((position + width, NORTH, SOUTH))
    if x + 1 < width:
        found.append((position + 1, EAST, WEST))
    if y > 0:
        found.append((position - width, SOUTH, NORTH))
    if x > 0:
        found.append((position - 1, WEST, EAST))
    return found


def bond(instance, glue, facing_glue):
    if glue != facing_glue:
        return 0
    return instance.strengths[glue]


# What a tile of this kind is held by at the position, whether or not it is there.
def binding_strength(instance, grid, position, kind):
    glues = instance.kinds[kind]
    total = 0
    for place, side, facing_side in neighbours(instance, position):
        if grid[place] != EMPTY:
            facing_glues = instance.kinds[grid[place] - 1]
            total += bond(instance, glues[side], facing_glues[facing_side])
    return total


def is_attachable(instance, grid, position, kind):
    if grid[position] != EMPTY:
        return False
    return binding_strength(instance, grid, position, kind) >= instance.threshold


# The smallest of these kinds, which are in order, that is attachable at the position, or None.
def smallest_kind(instance, grid, position, kinds):
    for kind in kinds:
        if is_attachable(instance, grid, position, kind):
            return kind
    return None


# For each position the kinds that may be attached there: all of them.
def free_choice(instance):
    kinds = list(range(len(instance.kinds)))
    return [kinds] * (instance.width * instance.height)


# The first position from the begin on with a kind of its choice that is attachable, and this kind; None at the end.
def first_attachment(instance, grid, choice, begin):
    for position in range(begin, len(grid)):
        kind = smallest_kind(instance, grid, position, choice[position])
        if kind is not None:
            return (position, kind)
    return None


# The attachments, in order, by which this grid grows as long as some position has one of its choice.
def chosen_steps(instance, grid, choice):
    grown = list(grid)
    attachments = []
    attachment = first_attachment(instance, grown, choice, 0)
    while attachment is not None:
        attachments.append(attachment)
        grown[attachment[0]] = attachment[1] + 1
        # A new tile helps its neighbours alone, and the first of them lies one row to the south.
        begin = max(attachment[0] - instance.width, 0)
        attachment = first_attachment(instance, grown, choice, begin)
    return attachments


# The attachments, in order, by which this grid grows until nothing is attachable.
def growth_steps(instance, grid):
    return chosen_steps(instance, grid, free_choice(instance))


# A new list: the grid that these attachments lead to.
def after_steps(grid, attachments):
    later = list(grid)
    for position, kind in attachments:
        later[position] = kind + 1
    return later


# The grid after one parallel round.
def after_round(instance, grid):
    choice = free_choice(instance)
    # A new list: no tile of the round may bind to another of the same round.
    later = list(grid)
    for position in range(len(grid)):
        kind = smallest_kind(instance, grid, position, choice[position])
        if kind is not None:
            later[position] = kind + 1
    return later


# How many parallel rounds there are until nothing is attachable.
def count_rounds(instance, grid):
    rounds = 0
    earlier = grid
    later = after_round(instance, earlier)
    while later != earlier:
        rounds += 1
        earlier = later
        later = after_round(instance, earlier)
    return rounds
