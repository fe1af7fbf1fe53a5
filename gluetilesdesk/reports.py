"""The operations that only report values. Each gives back the numbers that it answers, or its refusal alone."""

from gluetilesdesk.growth import count_rounds
from gluetilesdesk.instance import EMPTY, current_grid, has_kind, has_position, position_number
from gluetilesdesk.refusals import NO_SUCH, NOT_THERE, OCCUPIED
from gluetilesdesk.uniqueness import all_alternatives, first_of_alternatives, grown_grid, part_without
from gluetilesdesk.uniqueness import parts_of_growth, prerequisites_in, steps_without


# The number of tiles, not of positions, stands ahead of a grid.
def written_grid(grid):
    return [len(grid) - grid.count(EMPTY)] + grid


# How many pairs there are, then the two numbers of each.
def written_pairs(pairs):
    written = [len(pairs)]
    for position, kind in pairs:
        written.append(position)
        written.append(kind)
    return written


def written_list(numbers):
    return [len(numbers)] + numbers


def parallel_rounds(instance):
    return [count_rounds(instance, current_grid(instance))]


def get_grid(instance):
    return written_grid(current_grid(instance))


def get_tile_kind(instance, kind):
    if not has_kind(instance, kind):
        return [NO_SUCH]
    return written_list(instance.kinds[kind])


def status(instance):
    counts = [len(instance.kinds), instance.width, instance.height, instance.threshold]
    counts.append(len(instance.seeds))
    counts.append(len(instance.attached))
    # The first strength is that of glue 0, which is not told.
    return counts + instance.strengths[1:]


def is_unique(instance):
    grid = current_grid(instance)
    if first_of_alternatives(instance, grid, grown_grid(instance, grid)) is None:
        return [1]
    return [0]


def first_alternative(instance):
    grid = current_grid(instance)
    grown = grown_grid(instance, grid)
    alternative = first_of_alternatives(instance, grid, grown)
    if alternative is None:
        return [NOT_THERE]
    return written_pairs(steps_without(instance, grid, grown, alternative[0]) + [alternative])


def alternatives(instance):
    grid = current_grid(instance)
    return written_pairs(all_alternatives(instance, grid, grown_grid(instance, grid)))


def terminal_grid(instance):
    return written_grid(grown_grid(instance, current_grid(instance)))


def current_parts(instance):
    grid = current_grid(instance)
    return parts_of_growth(instance, grid, grown_grid(instance, grid))


# Why the position can't be asked for, or None: it must be there and be empty.
def refusal_at(instance, x, y):
    if not has_position(instance, x, y):
        return NO_SUCH
    if current_grid(instance)[position_number(instance, x, y)] != EMPTY:
        return OCCUPIED
    return None


def grid_without(instance, x, y):
    refusal = refusal_at(instance, x, y)
    if refusal is not None:
        return [refusal]
    grid = current_grid(instance)
    grown = grown_grid(instance, grid)
    return written_grid(part_without(instance, grid, grown, position_number(instance, x, y)))


def prerequisites(instance, x, y):
    refusal = refusal_at(instance, x, y)
    if refusal is not None:
        return [refusal]
    # The parts are those of the positions that growing fills.
    parts = current_parts(instance)
    position = position_number(instance, x, y)
    if position not in parts:
        return [NOT_THERE]
    return written_list(prerequisites_in(parts, position))


def max_prerequisites(instance):
    parts = current_parts(instance)
    # The 0 stands for a grid on which growing fills nothing.
    return [max([0] + [len(prerequisites_in(parts, position)) for position in parts])]


def independent_positions(instance):
    parts = current_parts(instance)
    return written_list([position for position in parts if len(prerequisites_in(parts, position)) == 0])
