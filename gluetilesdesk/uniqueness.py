"""How far a grid grows while one position stays empty, and what follows: alternatives and prerequisites.

Throughout, grid is the grid as it is, and grown is the one that it grows into.
"""

from gluetilesdesk.growth import after_steps, chosen_steps, growth_steps, is_attachable
from gluetilesdesk.instance import EMPTY


def grown_grid(instance, grid):
    return after_steps(grid, growth_steps(instance, grid))


# The kinds that may be attached while the position stays empty: where growing has a tile, just its kind.
def choice_without(grown, position):
    choice = [[] if tile == EMPTY else [tile - 1] for tile in grown]
    choice[position] = []
    return choice


def steps_without(instance, grid, grown, position):
    return chosen_steps(instance, grid, choice_without(grown, position))


def part_without(instance, grid, grown, position):
    return after_steps(grid, steps_without(instance, grid, grown, position))


# The alternatives at one empty position, as pairs of it and a kind, by kind.
def alternatives_at(instance, grid, grown, position):
    part = part_without(instance, grid, grown, position)
    others = [kind for kind in range(len(instance.kinds)) if grown[position] != kind + 1]
    return [(position, kind) for kind in others if is_attachable(instance, part, position, kind)]


# All alternatives, by position and then by kind.
def all_alternatives(instance, grid, grown):
    found = []
    for position in range(len(grid)):
        if grid[position] == EMPTY:
            found.extend(alternatives_at(instance, grid, grown, position))
    return found


# The first alternative, or None. It does not look beyond, as all_alternatives would.
def first_of_alternatives(instance, grid, grown):
    for position in range(len(grid)):
        if grid[position] == EMPTY:
            found = alternatives_at(instance, grid, grown, position)
            if len(found) > 0:
                return found[0]
    return None


# The grid without each of the positions that growing fills, by position.
def parts_of_growth(instance, grid, grown):
    parts = {}
    for position in range(len(grid)):
        if grid[position] == EMPTY and grown[position] != EMPTY:
            parts[position] = part_without(instance, grid, grown, position)
    return parts


# The prerequisites of a position that growing fills, in ascending order, because the parts are.
def prerequisites_in(parts, position):
    return [other for other in parts if other != position and parts[other][position] == EMPTY]
