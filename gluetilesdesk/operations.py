"""The operations that may change what is held. Each gives back the numbers that it answers, or its refusal alone."""

from gluetilesdesk.growth import binding_strength, growth_steps
from gluetilesdesk.instance import EMPTY, MOST_GLUE, Instance, current_grid, has_kind, has_position, position_number
from gluetilesdesk.refusals import KINDS_FULL, NO_SUCH, NOT_ATTACHABLE, NOT_THERE, NOTHING_ATTACHED
from gluetilesdesk.refusals import OCCUPIED, OUT_OF_LIMITS

MOST_SIDE = 6
MOST_THRESHOLD = 4
MOST_STRENGTH = 3
MOST_KINDS = 12
SIDES = 4


def outside(value, low, high):
    return value < low or value > high


# Tiles were attached by the rules and seeds of their time, so they go when these change.
def drop_attached(instance):
    instance.attached = []


def create(session, width, height, threshold):
    if outside(width, 1, MOST_SIDE) or outside(height, 1, MOST_SIDE):
        return [OUT_OF_LIMITS]
    if outside(threshold, 1, MOST_THRESHOLD):
        return [OUT_OF_LIMITS]
    session.instance = Instance(width, height, threshold)
    return [0]


def add_tile_kind(instance, glues):
    if len(glues) != SIDES or max(glues) > MOST_GLUE:
        return [OUT_OF_LIMITS]
    if len(instance.kinds) == MOST_KINDS:
        return [KINDS_FULL]
    instance.kinds.append(list(glues))
    drop_attached(instance)
    return [len(instance.kinds) - 1]


def set_strength(instance, glue, strength):
    if outside(glue, 1, MOST_GLUE) or strength > MOST_STRENGTH:
        return [OUT_OF_LIMITS]
    previous = instance.strengths[glue]
    instance.strengths[glue] = strength
    drop_attached(instance)
    return [previous]


def set_threshold(instance, threshold):
    if outside(threshold, 1, MOST_THRESHOLD):
        return [OUT_OF_LIMITS]
    previous = instance.threshold
    instance.threshold = threshold
    drop_attached(instance)
    return [previous]


def add_seed(instance, x, y, kind):
    if not has_position(instance, x, y) or not has_kind(instance, kind):
        return [NO_SUCH]
    position = position_number(instance, x, y)
    # An attached tile is no hindrance: it is removed with all the others.
    if position in instance.seeds:
        return [OCCUPIED]
    instance.seeds[position] = kind
    drop_attached(instance)
    return [len(instance.seeds)]


def remove_seed(instance, x, y):
    if not has_position(instance, x, y):
        return [NO_SUCH]
    position = position_number(instance, x, y)
    if position not in instance.seeds:
        return [NOT_THERE]
    instance.seeds.pop(position)
    drop_attached(instance)
    return [len(instance.seeds)]


def attach(instance, x, y, kind):
    if not has_position(instance, x, y) or not has_kind(instance, kind):
        return [NO_SUCH]
    position = position_number(instance, x, y)
    grid = current_grid(instance)
    if grid[position] != EMPTY:
        return [OCCUPIED]
    strength = binding_strength(instance, grid, position, kind)
    if strength < instance.threshold:
        return [NOT_ATTACHABLE]
    instance.attached.append((position, kind))
    return [strength]


def undo_attach(instance):
    if len(instance.attached) == 0:
        return [NOTHING_ATTACHED]
    instance.attached.pop()
    return [len(instance.attached)]


def clear_attached(instance):
    removed = len(instance.attached)
    drop_attached(instance)
    return [removed]


def grow(instance):
    attachments = growth_steps(instance, current_grid(instance))
    instance.attached.extend(attachments)
    return [len(attachments)]
