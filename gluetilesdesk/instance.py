"""What a session holds, and the grid that follows from it.

A tile kind is a list of four glues: north, east, south, west.
A grid is a list with one number for each position: EMPTY, or the tile kind plus 1.
"""

EMPTY = 0
MOST_GLUE = 9


# The tile kinds, the glues and the tiles of one grid.
class Instance:
    def __init__(self, width, height, threshold):
        self.width = width
        self.height = height
        self.threshold = threshold
        # Glue 0 has a place of its own, always 0, so that a glue is its own index.
        self.strengths = [0] + [1] * MOST_GLUE
        self.kinds = []
        # Seeds by position; attached tiles as (position, kind), because their order counts.
        self.seeds = {}
        self.attached = []


# One list of calls: it has no instance until one is created.
class Session:
    def __init__(self):
        self.instance = None


def has_position(instance, x, y):
    return x < instance.width and y < instance.height


def has_kind(instance, kind):
    return kind < len(instance.kinds)


def position_number(instance, x, y):
    return y * instance.width + x


# A new list at each call: the caller may change it.
def current_grid(instance):
    grid = [EMPTY] * (instance.width * instance.height)
    for position, kind in instance.seeds.items():
        grid[position] = kind + 1
    for position, kind in instance.attached:
        grid[position] = kind + 1
    return grid
