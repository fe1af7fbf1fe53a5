"""The numbers of the calls, and where a call and what it is given lie in a list of calls."""

CREATE = 0
ADD_TILE_KIND = 1
SET_STRENGTH = 2
SET_THRESHOLD = 3
ADD_SEED = 4
REMOVE_SEED = 5
ATTACH = 6
UNDO_ATTACH = 7
CLEAR_ATTACHED = 8
GROW = 9
PARALLEL_ROUNDS = 10
GET_GRID = 11
GET_TILE_KIND = 12
STATUS = 13
IS_UNIQUE = 14
FIRST_ALTERNATIVE = 15
ALTERNATIVES = 16
TERMINAL_GRID = 17
GRID_WITHOUT = 18
PREREQUISITES = 19
MAX_PREREQUISITES = 20
INDEPENDENT_POSITIONS = 21

# How many numbers are given to each call. That of ADD_TILE_KIND is not used: its row tells its own length.
GIVEN = (3, 0, 2, 1, 3, 2, 3, 0, 0, 0, 0, 0, 1, 0, 0, 0, 0, 0, 2, 2, 0, 0)


# Where the numbers begin that are given to the call at this place.
def given_begin(calls, at):
    if calls[at] == ADD_TILE_KIND:
        return at + 2
    return at + 1


# Where they end, and so where the call behind it begins.
def given_end(calls, at):
    if calls[at] == ADD_TILE_KIND:
        return at + 2 + calls[at + 1]
    return at + 1 + GIVEN[calls[at]]
