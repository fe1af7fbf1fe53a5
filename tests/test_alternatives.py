"""The calls 14, 15, 16 and 18: uniqueness, alternatives, and the grid without a position."""

import unittest

from helper import (ALTERNATIVES, FIRST_ALTERNATIVE, GET_GRID, GROW, HUGE, IS_UNIQUE, ROW, TERMINAL_GRID, UNDO,
                    add_seed, add_tile_type, attach, create, grid_without, set_strength, set_threshold, told,
                    told_behind)

# One kind that spreads to the east and to the west.
LINE = add_tile_type(0, 1, 0, 1)
# It ends a line in the east.
END = add_tile_type(0, 0, 0, 1)
SPREAD = add_tile_type(1, 1, 1, 1)

# Position 1 is filled by kind 4, from the west; if it stays empty, the smaller kind 1 fits from the north too.
ROUND_THE_CORNER = (
    create(2, 2, 1),
    add_tile_type(1, 2, 0, 0),
    add_tile_type(4, 0, 0, 0),
    add_tile_type(0, 3, 1, 0),
    add_tile_type(0, 0, 4, 3),
    add_tile_type(0, 0, 0, 2),
    add_seed(0, 0, 0),
)

# Kind 1 binds to the seed and to nothing behind it, so position 2 stays empty; with kind 2 it would be filled.
SHORT_OR_LONG = (create(3, 1, 1), add_tile_type(0, 1, 0, 0), add_tile_type(0, 0, 0, 1), add_tile_type(0, 2, 0, 1),
                 add_tile_type(0, 0, 0, 2), add_seed(0, 0, 0))


def only(start, call):
    return told_behind(start, call)[0]


class Unique(unittest.TestCase):
    """Grids without alternatives."""

    def check_unique(self, start):
        self.assertEqual(told_behind(start, IS_UNIQUE, FIRST_ALTERNATIVE, ALTERNATIVES), [[1], [-33], [0]], start)

    def test_a_row(self):
        self.check_unique(ROW)
        self.check_unique(ROW + (attach(1, 0, 1),))
        self.check_unique(ROW + (GROW,))

    def test_no_kinds_and_no_tiles(self):
        for width, height in ((1, 1), (6, 1), (1, 6), (6, 6)):
            for threshold in (1, 4):
                self.check_unique([create(width, height, threshold)])
                self.check_unique([create(width, height, threshold)] + [SPREAD] * 12)

    def test_a_full_grid(self):
        self.check_unique([create(1, 1, 1), SPREAD, SPREAD, add_seed(0, 0, 1)])
        self.check_unique([create(6, 6, 1)] + [SPREAD] * 12 + [add_seed(2, 3, 4), GROW])
        self.check_unique([create(6, 1, 1), LINE, END] + [add_seed(x, 0, 0) for x in range(6)])

    def test_one_kind_that_fills_a_grid(self):
        self.check_unique([create(6, 6, 1), SPREAD, add_seed(2, 3, 0)])
        self.check_unique([create(6, 1, 1), LINE, add_seed(5, 0, 0)])

    def test_a_threshold_that_is_too_great(self):
        start = [create(6, 6, 4), SPREAD, SPREAD, add_seed(0, 0, 0)]
        self.check_unique(start)
        self.check_unique(start + [set_strength(1, 3)])
        self.assertEqual(only(start + [set_strength(1, 3), set_threshold(3)], IS_UNIQUE), [0])

    def test_a_glue_of_strength_zero(self):
        self.check_unique([create(2, 1, 1), LINE, LINE, add_seed(0, 0, 0), set_strength(1, 0)])

    def test_kinds_that_fit_nowhere(self):
        self.check_unique(ROW + (add_tile_type(0, 0, 0, 0), add_tile_type(9, 9, 9, 9)))


class Alternatives(unittest.TestCase):

    def test_another_kind_at_a_position(self):
        start = ROW + (add_tile_type(0, 0, 0, 1),)
        self.assertEqual(told_behind(start, IS_UNIQUE, ALTERNATIVES, FIRST_ALTERNATIVE), [[0], [1, 1, 3], [1, 1, 3]])

    def test_the_kind_that_was_grown_is_none(self):
        start = [create(2, 1, 1), LINE, LINE, LINE, add_seed(0, 0, 2)]
        self.assertEqual(told_behind(start, TERMINAL_GRID, ALTERNATIVES), [[2, 3, 1], [2, 1, 1, 1, 2]])

    def test_a_smaller_kind_than_the_one_that_was_grown(self):
        self.assertEqual(told_behind(ROUND_THE_CORNER, TERMINAL_GRID, IS_UNIQUE, ALTERNATIVES, FIRST_ALTERNATIVE),
                         [[4, 1, 5, 3, 4], [0], [1, 1, 1], [3, 2, 2, 3, 3, 1, 1]])

    def test_ordered_by_position_and_then_by_kind(self):
        # The kinds 0, 2 and 3 are the same; kind 1 fits to the east of a tile only.
        start = [create(4, 1, 1), LINE, END, LINE, LINE, add_seed(1, 0, 3)]
        self.assertEqual(told_behind(start, TERMINAL_GRID, ALTERNATIVES), [
            [4, 1, 4, 1, 1],
            [8, 0, 2, 0, 3, 2, 1, 2, 2, 2, 3, 3, 1, 3, 2, 3, 3]])

    def test_twelve_kinds_at_each_position(self):
        start = [create(6, 6, 1)] + [SPREAD] * 12 + [add_seed(0, 0, 5)]
        expected = [35 * 11]
        for position in range(1, 36):
            for kind in range(1, 12):
                expected += [position, kind]
        # The way goes round position 1, and back to the south as soon as it can.
        way = [6, 7, 8, 2, 3, 4, 5, *range(9, 36)]
        self.assertEqual(told_behind(start, IS_UNIQUE, ALTERNATIVES, FIRST_ALTERNATIVE), [
            [0], expected, [35] + [number for position in way for number in (position, 0)] + [1, 1]])

    def test_thresholds_one_and_four(self):
        # Kind 1 is held by three of the four seeds around the middle, kind 2 by all.
        start = [create(3, 3, 4), SPREAD, add_tile_type(1, 1, 1, 0), SPREAD]
        start += [add_seed(x, y, 0) for x, y in ((1, 0), (0, 1), (2, 1), (1, 2))]
        self.assertEqual(told_behind(start, ALTERNATIVES, FIRST_ALTERNATIVE), [[1, 4, 2], [1, 4, 2]])
        self.assertEqual(only(start + [set_threshold(3)], ALTERNATIVES), [2, 4, 1, 4, 2])
        ends = [create(6, 1, 1), LINE, END, add_seed(0, 0, 0)]
        self.assertEqual(only(ends, ALTERNATIVES), [5, 1, 1, 2, 1, 3, 1, 4, 1, 5, 1])

    def test_none_where_the_grown_grid_is_empty(self):
        self.assertEqual(told_behind(SHORT_OR_LONG, TERMINAL_GRID, ALTERNATIVES, FIRST_ALTERNATIVE),
                         [[2, 1, 2, 0], [1, 1, 2], [1, 1, 2]])

    def test_none_where_there_is_a_tile(self):
        self.assertEqual(told_behind(SHORT_OR_LONG, attach(1, 0, 2), ALTERNATIVES, IS_UNIQUE), [[1], [0], [1]])
        self.assertEqual(told_behind(SHORT_OR_LONG, GROW, ALTERNATIVES, IS_UNIQUE), [[1], [0], [1]])

    def test_what_is_attached_counts(self):
        start = (create(3, 1, 1), LINE, END, add_seed(0, 0, 0))
        self.assertEqual(only(start, ALTERNATIVES), [2, 1, 1, 2, 1])
        self.assertEqual(only(start + (attach(1, 0, 0),), ALTERNATIVES), [1, 2, 1])
        self.assertEqual(only(start + (attach(1, 0, 0), UNDO), ALTERNATIVES), [2, 1, 1, 2, 1])
        self.assertEqual(only(start + (attach(1, 0, 1),), ALTERNATIVES), [0])


class FirstAlternative(unittest.TestCase):

    def test_tells_the_way_to_the_grid_without_the_position(self):
        # To the west of the seed position 1 comes ahead of position 0; then the end in the east.
        start = [create(5, 1, 1), LINE, END, add_seed(2, 0, 0)]
        self.assertEqual(told_behind(start, ALTERNATIVES, FIRST_ALTERNATIVE), [
            [2, 3, 1, 4, 1], [3, 1, 0, 0, 0, 3, 1]])

    def test_the_way_goes_by_the_smallest_position_at_each_step(self):
        # From the seed in the south-east; kind 1 fits to the north of any tile of kind 0.
        start = [create(2, 3, 1), SPREAD, add_tile_type(0, 0, 1, 0), add_seed(1, 0, 0)]
        self.assertEqual(told_behind(start, TERMINAL_GRID, ALTERNATIVES, FIRST_ALTERNATIVE), [
            [6, 1, 1, 1, 1, 1, 1],
            [4, 2, 1, 3, 1, 4, 1, 5, 1],
            [5, 0, 0, 3, 0, 5, 0, 4, 0, 2, 1]])

    def test_the_way_can_be_gone(self):
        for start in (ROUND_THE_CORNER, SHORT_OR_LONG, [create(5, 1, 1), LINE, END, add_seed(2, 0, 0)],
                      [create(4, 4, 1), SPREAD, END, add_seed(3, 3, 0), attach(2, 3, 0)]):
            width = start[0][1]
            told_first = only(start, FIRST_ALTERNATIVE)
            pairs = list(zip(told_first[1::2], told_first[2::2]))
            self.assertEqual(len(pairs), told_first[0])
            steps = [attach(position % width, position // width, kind) for position, kind in pairs]
            place = steps[-1][1:3]
            found = told_behind(start, grid_without(*place), *steps[:-1], GET_GRID, steps[-1])
            self.assertEqual(found[0], found[-2])
            self.assertTrue(all(answer[0] > 0 for answer in found), found)
            self.assertEqual(list(pairs[-1]), only(start, ALTERNATIVES)[1:3])

    def test_starts_from_what_is_attached(self):
        start = (create(5, 1, 1), LINE, END, add_seed(2, 0, 0), attach(1, 0, 0))
        self.assertEqual(only(start, FIRST_ALTERNATIVE), [2, 0, 0, 3, 1])
        self.assertEqual(only(start + (attach(3, 0, 0),), FIRST_ALTERNATIVE), [2, 0, 0, 4, 1])

    def test_no_alternatives(self):
        self.assertEqual(only(ROW, FIRST_ALTERNATIVE), [-33])
        self.assertEqual(only([create(1, 1, 1)], FIRST_ALTERNATIVE), [-33])


class GridWithout(unittest.TestCase):

    def test_a_row(self):
        self.assertEqual(told_behind(ROW, grid_without(1, 0), grid_without(2, 0)), [[1, 1, 0, 0], [2, 1, 2, 0]])
        self.assertEqual(only(ROW + (attach(1, 0, 1),), grid_without(2, 0)), [2, 1, 2, 0])

    def test_six_by_one(self):
        start = [create(6, 1, 1), LINE, add_seed(2, 0, 0)]
        self.assertEqual(told_behind(start, *[grid_without(x, 0) for x in range(6)]), [
            [5, 0, 1, 1, 1, 1, 1], [4, 0, 0, 1, 1, 1, 1], [-17], [3, 1, 1, 1, 0, 0, 0], [4, 1, 1, 1, 1, 0, 0],
            [5, 1, 1, 1, 1, 1, 0]])

    def test_one_by_one(self):
        self.assertEqual(only([create(1, 1, 1)], grid_without(0, 0)), [0, 0])
        self.assertEqual(only([create(1, 1, 4), SPREAD], grid_without(0, 0)), [0, 0])
        self.assertEqual(only([create(1, 1, 1), SPREAD, add_seed(0, 0, 0)], grid_without(0, 0)), [-17])

    def test_six_by_six_grows_round_the_position(self):
        start = [create(6, 6, 1), SPREAD, add_seed(0, 0, 0)]
        for x, y in ((1, 0), (0, 1), (3, 3), (5, 0), (0, 5), (5, 5)):
            expected = [35] + [1] * 36
            expected[1 + y * 6 + x] = 0
            self.assertEqual(only(start, grid_without(x, y)), expected)

    def test_needs_two_bonds(self):
        start = [create(3, 3, 2), SPREAD] + [add_seed(x, 0, 0) for x in range(3)] + [add_seed(0, y, 0) for y in (1, 2)]
        self.assertEqual(told_behind(start, grid_without(1, 1), grid_without(2, 1), grid_without(1, 2),
                                     grid_without(2, 2)), [
            [5, 1, 1, 1, 1, 0, 0, 1, 0, 0], [7, 1, 1, 1, 1, 1, 0, 1, 1, 0], [7, 1, 1, 1, 1, 1, 1, 1, 0, 0],
            [8, 1, 1, 1, 1, 1, 1, 1, 1, 0]])

    def test_takes_the_kinds_of_the_grown_grid_alone(self):
        # Kind 5 fits at position 3 as well, but the grown grid has kind 3 there.
        start = ROUND_THE_CORNER + (add_tile_type(0, 0, 0, 3),)
        self.assertEqual(only(start, grid_without(1, 0)), [3, 1, 0, 3, 4])
        # At position 2 kind 2 is grown from the west; from the east kind 3 fits, but it is not taken.
        start = [create(4, 1, 1), add_tile_type(0, 1, 0, 0), add_tile_type(0, 2, 0, 1), add_tile_type(0, 0, 0, 2),
                 add_tile_type(0, 3, 0, 0), add_tile_type(0, 0, 0, 3), add_seed(0, 0, 0), add_seed(3, 0, 4)]
        self.assertEqual(told_behind(start, TERMINAL_GRID, grid_without(1, 0), grid_without(2, 0), ALTERNATIVES), [
            [4, 1, 2, 3, 5], [2, 1, 0, 0, 5], [3, 1, 2, 0, 5], [1, 2, 3]])

    def test_a_position_that_the_grown_grid_leaves_empty(self):
        self.assertEqual(only(SHORT_OR_LONG, grid_without(2, 0)), [2, 1, 2, 0])
        self.assertEqual(only(ROW + (set_strength(1, 0),), grid_without(2, 0)), [1, 1, 0, 0])

    def test_no_such_position(self):
        for x, y in ((3, 0), (0, 1), (4, 0), (3, 1), (HUGE, 0), (0, HUGE), (HUGE, HUGE)):
            self.assertEqual(only(ROW, grid_without(x, y)), [-2])
        # (3, 0) would be the number of (0, 1) if it were not looked at by itself.
        self.assertEqual(only([create(3, 2, 1)], grid_without(3, 0)), [-2])
        self.assertEqual(only([create(6, 6, 1)], grid_without(6, 5)), [-2])

    def test_there_is_a_tile(self):
        self.assertEqual(only(ROW, grid_without(0, 0)), [-17])
        self.assertEqual(only(ROW + (attach(1, 0, 1),), grid_without(1, 0)), [-17])
        self.assertEqual(told_behind(ROW, GROW, *[grid_without(x, 0) for x in range(4)]),
                         [[2], [-17], [-17], [-17], [-2]])


class NoInstance(unittest.TestCase):

    def test_until_create_has_succeeded(self):
        for call in (IS_UNIQUE, FIRST_ALTERNATIVE, ALTERNATIVES, grid_without(0, 0), grid_without(HUGE, HUGE)):
            self.assertEqual(told(call), [[-11]])
            self.assertEqual(told(create(0, 1, 1), call), [[-22], [-11]])
            self.assertNotEqual(told(create(1, 1, 1), call)[1], [-11])


if __name__ == "__main__":
    unittest.main()
