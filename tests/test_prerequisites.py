"""The calls 19 to 21: the positions that must be filled ahead of others."""

import unittest

from helper import (GROW, HUGE, INDEPENDENT, MAX_PREREQUISITES, ROW, TERMINAL_GRID, UNDO, add_seed, add_tile_type,
                    attach, create, prerequisites, set_strength, set_threshold, told, told_behind)

# One kind that spreads to the east and to the west, and one that spreads all around.
LINE = add_tile_type(0, 1, 0, 1)
SPREAD = add_tile_type(1, 1, 1, 1)

# With two bonds needed, each position waits for all those to its south-west that are no seeds.
STAIRS = (create(6, 6, 2), SPREAD, *[add_seed(x, 0, 0) for x in range(6)], *[add_seed(0, y, 0) for y in range(1, 6)])


def only(start, call):
    return told_behind(start, call)[0]


class Prerequisites(unittest.TestCase):

    def test_a_row(self):
        self.assertEqual(told_behind(ROW, prerequisites(1, 0), prerequisites(2, 0)), [[0], [1, 1]])

    def test_six_by_one(self):
        start = [create(6, 1, 1), LINE, add_seed(2, 0, 0)]
        self.assertEqual(told_behind(start, *[prerequisites(x, 0) for x in range(6)]),
                         [[1, 1], [0], [-17], [0], [1, 3], [2, 3, 4]])

    def test_one_by_six(self):
        start = [create(1, 6, 1), add_tile_type(1, 0, 1, 0), add_seed(0, 5, 0)]
        self.assertEqual(told_behind(start, *[prerequisites(0, y) for y in range(6)]),
                         [[4, 1, 2, 3, 4], [3, 2, 3, 4], [2, 3, 4], [1, 4], [0], [-17]])

    def test_a_position_that_is_reached_in_two_ways(self):
        start = [create(6, 6, 1), SPREAD, add_seed(0, 0, 0)]
        places = [(x, y) for x in (0, 1, 5) for y in (0, 1, 5)][1:]
        self.assertEqual(told_behind(start, *[prerequisites(x, y) for x, y in places]), [[0]] * 8)

    def test_all_those_to_the_south_west(self):
        for x in range(1, 6):
            for y in range(1, 6):
                expected = [b * 6 + a for b in range(1, y + 1) for a in range(1, x + 1)][:-1]
                self.assertEqual(only(STAIRS, prerequisites(x, y)), [len(expected)] + expected)

    def test_what_is_attached_is_none(self):
        start = [create(5, 1, 1), LINE, add_seed(0, 0, 0)]
        self.assertEqual(only(start, prerequisites(4, 0)), [3, 1, 2, 3])
        self.assertEqual(only(start + [attach(1, 0, 0)], prerequisites(4, 0)), [2, 2, 3])
        self.assertEqual(only(start + [attach(1, 0, 0), attach(2, 0, 0)], prerequisites(4, 0)), [1, 3])
        self.assertEqual(only(start + [GROW, UNDO], prerequisites(4, 0)), [0])

    def test_seeds_are_none(self):
        self.assertEqual(only([create(5, 1, 1), LINE, add_seed(0, 0, 0), add_seed(2, 0, 0)], prerequisites(4, 0)),
                         [1, 3])

    def test_a_position_that_stays_empty_is_none(self):
        # Position 1 is empty in the grown grid, and the others grow round it: it is needed nowhere.
        start = [create(3, 2, 1), add_tile_type(1, 0, 0, 0), add_tile_type(0, 2, 1, 0), add_tile_type(0, 4, 0, 2),
                 add_tile_type(0, 0, 3, 4), add_tile_type(3, 0, 0, 0), add_seed(0, 0, 0)]
        self.assertEqual(told_behind(start, TERMINAL_GRID, prerequisites(2, 0), prerequisites(1, 0), INDEPENDENT,
                                     MAX_PREREQUISITES),
                         [[5, 1, 0, 5, 2, 3, 4], [3, 3, 4, 5], [-33], [1, 3], [3]])

    def test_ways_of_the_grown_grid_alone(self):
        # Position 2 could be reached from the east by kind 3, but the grown grid has kind 2, which needs position 1.
        start = [create(4, 1, 1), add_tile_type(0, 1, 0, 0), add_tile_type(0, 2, 0, 1), add_tile_type(0, 0, 0, 2),
                 add_tile_type(0, 3, 0, 0), add_tile_type(0, 0, 0, 3), add_seed(0, 0, 0), add_seed(3, 0, 4)]
        self.assertEqual(only(start, prerequisites(2, 0)), [1, 1])

    def test_thresholds_four_and_one(self):
        # The middle is held by four seeds, each corner by two only.
        start = [create(3, 3, 4), SPREAD]
        start += [add_seed(x, y, 0) for x, y in ((1, 0), (0, 1), (2, 1), (1, 2))]
        self.assertEqual(told_behind(start, prerequisites(1, 1), prerequisites(0, 0)), [[0], [-33]])
        self.assertEqual(only(start[:-1] + [set_threshold(1)], prerequisites(1, 2)), [0])

    def test_no_such_position(self):
        for x, y in ((3, 0), (0, 1), (4, 0), (3, 1), (HUGE, 0), (0, HUGE), (HUGE, HUGE)):
            self.assertEqual(only(ROW, prerequisites(x, y)), [-2])
        # (3, 0) would be the number of (0, 1) if it were not looked at by itself.
        self.assertEqual(only([create(3, 2, 1)], prerequisites(3, 0)), [-2])
        self.assertEqual(only([create(6, 6, 1)], prerequisites(5, 6)), [-2])

    def test_there_is_a_tile(self):
        self.assertEqual(only(ROW, prerequisites(0, 0)), [-17])
        self.assertEqual(only(ROW + (attach(1, 0, 1),), prerequisites(1, 0)), [-17])
        self.assertEqual(told_behind(ROW, GROW, *[prerequisites(x, 0) for x in range(4)]),
                         [[2], [-17], [-17], [-17], [-2]])

    def test_the_position_stays_empty(self):
        self.assertEqual(only([create(1, 1, 1)], prerequisites(0, 0)), [-33])
        self.assertEqual(only([create(6, 6, 4)] + [SPREAD] * 12, prerequisites(5, 5)), [-33])
        self.assertEqual(told_behind(ROW, set_strength(2, 0), prerequisites(1, 0), prerequisites(2, 0)),
                         [[1], [0], [-33]])


class MaxPrerequisites(unittest.TestCase):

    def test_the_largest_number(self):
        self.assertEqual(only(ROW, MAX_PREREQUISITES), [1])
        self.assertEqual(only([create(6, 1, 1), LINE, add_seed(0, 0, 0)], MAX_PREREQUISITES), [4])
        self.assertEqual(only([create(6, 1, 1), LINE, add_seed(2, 0, 0)], MAX_PREREQUISITES), [2])
        self.assertEqual(only([create(6, 1, 1), LINE, add_seed(5, 0, 0)], MAX_PREREQUISITES), [4])
        self.assertEqual(only(STAIRS, MAX_PREREQUISITES), [24])
        self.assertEqual(only(STAIRS + (attach(1, 1, 0),), MAX_PREREQUISITES), [23])

    def test_none_has_any(self):
        self.assertEqual(only([create(6, 6, 1), SPREAD, add_seed(0, 0, 0)], MAX_PREREQUISITES), [0])

    def test_growing_fills_nothing(self):
        for start in ([create(1, 1, 1)], [create(6, 6, 4)], [create(6, 1, 1)] + [SPREAD] * 12,
                      [create(1, 1, 1), SPREAD, add_seed(0, 0, 0)], ROW + (GROW,), STAIRS + (GROW,),
                      ROW + (set_threshold(2),), ROW + (set_strength(1, 0),), STAIRS + (set_threshold(4),)):
            self.assertEqual(told_behind(start, MAX_PREREQUISITES, INDEPENDENT), [[0], [0]], start)

    def test_twelve_kinds(self):
        kinds = [add_tile_type(0, glue, 0, glue - 1) for glue in range(1, 7)] + [add_tile_type(9, 9, 9, 9)] * 6
        self.assertEqual(told_behind([create(6, 1, 1)] + kinds + [add_seed(0, 0, 0)], TERMINAL_GRID,
                                     MAX_PREREQUISITES, INDEPENDENT), [[6, 1, 2, 3, 4, 5, 6], [4], [1, 1]])


class IndependentPositions(unittest.TestCase):

    def test_those_beside_the_seeds(self):
        self.assertEqual(only(ROW, INDEPENDENT), [1, 1])
        self.assertEqual(only(ROW + (attach(1, 0, 1),), INDEPENDENT), [1, 2])
        self.assertEqual(only([create(6, 1, 1), LINE, add_seed(2, 0, 0)], INDEPENDENT), [2, 1, 3])
        self.assertEqual(only(STAIRS, INDEPENDENT), [1, 7])
        self.assertEqual(only(STAIRS + (attach(1, 1, 0),), INDEPENDENT), [2, 8, 13])

    def test_all(self):
        self.assertEqual(only([create(6, 6, 1), SPREAD, add_seed(0, 0, 0)], INDEPENDENT), [35, *range(1, 36)])

    def test_none_that_stays_empty(self):
        self.assertEqual(told_behind(ROW, set_strength(2, 0), INDEPENDENT), [[1], [1, 1]])

    def test_need_not_be_attachable_at_once(self):
        # Two seeds at the ends: each position between them is reached from either side.
        start = [create(6, 1, 1), LINE, add_seed(0, 0, 0), add_seed(5, 0, 0)]
        self.assertEqual(told_behind(start, INDEPENDENT, MAX_PREREQUISITES), [[4, 1, 2, 3, 4], [0]])

    def test_agrees_with_the_prerequisites(self):
        starts = (ROW, STAIRS, STAIRS + (attach(1, 1, 0), attach(2, 1, 0)),
                  (create(6, 1, 1), LINE, add_seed(4, 0, 0)), (create(6, 6, 1), SPREAD, add_seed(3, 3, 0)),
                  (create(4, 3, 1), LINE, add_seed(1, 0, 0), add_seed(3, 2, 0)))
        for start in starts:
            width, height = start[0][1:3]
            counts = {y * width + x: only(start, prerequisites(x, y))[0] for y in range(height) for x in range(width)}
            expected = [position for position, count in counts.items() if count == 0]
            self.assertEqual(only(start, INDEPENDENT), [len(expected)] + expected)
            self.assertEqual(only(start, MAX_PREREQUISITES), [max(0, *counts.values())])


class NoInstance(unittest.TestCase):

    def test_until_create_has_succeeded(self):
        for call in (prerequisites(0, 0), prerequisites(HUGE, HUGE), MAX_PREREQUISITES, INDEPENDENT):
            self.assertEqual(told(call), [[-11]])
            self.assertEqual(told(create(1, 0, 1), call), [[-22], [-11]])
            self.assertNotEqual(told(create(1, 1, 1), call)[1], [-11])


if __name__ == "__main__":
    unittest.main()
