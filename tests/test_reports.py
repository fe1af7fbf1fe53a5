"""The calls 11 to 13 and 17: what is there, and the grown grid."""

import unittest

from helper import (CLEAR, GET_GRID, GROW, HUGE, ROW, STATUS, TERMINAL_GRID, UNDO, add_seed, add_tile_type, attach,
                    create, get_tile_type, remove_seed, set_strength, set_threshold, told, told_behind)

ONES = [1] * 9


def only(start, call):
    return told_behind(start, call)[0]


class GetGrid(unittest.TestCase):

    def test_no_tiles(self):
        for width, height in ((1, 1), (6, 1), (1, 6), (3, 2), (6, 6)):
            expected = [0] + [0] * (width * height)
            self.assertEqual(only([create(width, height, 1)], GET_GRID), expected)
            self.assertEqual(only([create(width, height, 4), add_tile_type(1, 1, 1, 1)], GET_GRID), expected)

    def test_seeds_and_attached_tiles(self):
        self.assertEqual(only(ROW, GET_GRID), [1, 1, 0, 0])
        self.assertEqual(only(ROW + (attach(1, 0, 1),), GET_GRID), [2, 1, 2, 0])
        self.assertEqual(only(ROW + (GROW,), GET_GRID), [3, 1, 2, 3])
        self.assertEqual(only(ROW + (GROW, UNDO), GET_GRID), [2, 1, 2, 0])
        self.assertEqual(only(ROW + (GROW, CLEAR), GET_GRID), [1, 1, 0, 0])
        self.assertEqual(only(ROW + (GROW, remove_seed(0, 0)), GET_GRID), [0, 0, 0, 0])

    def test_the_count_is_of_tiles_not_of_positions(self):
        self.assertEqual(only([create(6, 6, 1), add_tile_type(0, 0, 0, 0), add_seed(0, 0, 0), add_seed(5, 5, 0)],
                              GET_GRID), [2, 1] + [0] * 34 + [1])

    def test_positions_go_to_the_east_then_to_the_north(self):
        start = [create(3, 2, 1)] + [add_tile_type(0, 0, 0, 0)] * 3
        self.assertEqual(only(start + [add_seed(1, 0, 0), add_seed(0, 1, 1), add_seed(2, 1, 2)], GET_GRID),
                         [3, 0, 1, 0, 2, 0, 3])

    def test_a_full_grid(self):
        self.assertEqual(only([create(6, 6, 1), add_tile_type(1, 1, 1, 1), add_seed(3, 3, 0), GROW], GET_GRID),
                         [36] + [1] * 36)
        self.assertEqual(only([create(1, 1, 4), add_tile_type(0, 0, 0, 0), add_seed(0, 0, 0)], GET_GRID), [1, 1])

    def test_the_twelfth_kind(self):
        start = [create(6, 1, 1)] + [add_tile_type(0, 0, 0, 0)] * 12
        self.assertEqual(only(start + [add_seed(5, 0, 11), add_seed(0, 0, 0)], GET_GRID), [2, 1, 0, 0, 0, 0, 12])


class GetTileType(unittest.TestCase):

    def test_four_and_then_the_glues(self):
        start = [create(1, 1, 1), add_tile_type(1, 2, 3, 4), add_tile_type(0, 9, 0, 9), add_tile_type(0, 0, 0, 0)]
        self.assertEqual(told_behind(start, *[get_tile_type(kind) for kind in range(3)]),
                         [[4, 1, 2, 3, 4], [4, 0, 9, 0, 9], [4, 0, 0, 0, 0]])

    def test_twelve_kinds(self):
        start = [create(6, 6, 4)] + [add_tile_type(kind % 10, 9, 0, kind // 2) for kind in range(12)]
        self.assertEqual(told_behind(start, *[get_tile_type(kind) for kind in range(12)]),
                         [[4, kind % 10, 9, 0, kind // 2] for kind in range(12)])
        self.assertEqual(told_behind(start, get_tile_type(12), get_tile_type(13), get_tile_type(HUGE)), [[-2]] * 3)

    def test_no_such_kind(self):
        self.assertEqual(only([create(1, 1, 1)], get_tile_type(0)), [-2])
        for kind in (3, 4, 11, 12, 255, HUGE):
            self.assertEqual(only(ROW, get_tile_type(kind)), [-2])

    def test_a_failed_one_is_not_there(self):
        start = [create(1, 1, 1), add_tile_type(1, 2, 3, 10), add_tile_type(1, 2, 3)]
        self.assertEqual(only(start, get_tile_type(0)), [-2])

    def test_gone_with_the_instance(self):
        self.assertEqual(only(ROW + (create(3, 1, 1),), get_tile_type(0)), [-2])
        self.assertEqual(only(ROW + (create(7, 1, 1),), get_tile_type(0)), [4, 0, 1, 0, 0])


class Status(unittest.TestCase):

    def test_behind_create(self):
        for width, height, threshold in ((1, 1, 1), (6, 1, 4), (1, 6, 2), (2, 5, 3), (6, 6, 4)):
            self.assertEqual(only([create(width, height, threshold)], STATUS),
                             [0, width, height, threshold, 0, 0] + ONES)

    def test_counts(self):
        self.assertEqual(only(ROW, STATUS), [3, 3, 1, 1, 1, 0] + ONES)
        self.assertEqual(only(ROW + (attach(1, 0, 1),), STATUS), [3, 3, 1, 1, 1, 1] + ONES)
        self.assertEqual(only(ROW + (GROW,), STATUS), [3, 3, 1, 1, 1, 2] + ONES)
        self.assertEqual(only(ROW + (GROW, UNDO), STATUS), [3, 3, 1, 1, 1, 1] + ONES)
        self.assertEqual(only(ROW + (GROW, add_seed(2, 0, 0)), STATUS), [3, 3, 1, 1, 2, 0] + ONES)
        self.assertEqual(only(ROW + (remove_seed(0, 0),), STATUS), [3, 3, 1, 1, 0, 0] + ONES)

    def test_full_counts(self):
        start = [create(6, 6, 1)] + [add_tile_type(1, 1, 1, 1)] * 12 + [add_seed(0, 0, 0), GROW]
        self.assertEqual(only(start, STATUS), [12, 6, 6, 1, 1, 35] + ONES)

    def test_settings(self):
        strengths = [set_strength(glue, (glue + 1) % 4) for glue in range(1, 10)]
        self.assertEqual(only([create(2, 3, 1), set_threshold(4), *strengths], STATUS),
                         [0, 2, 3, 4, 0, 0, 2, 3, 0, 1, 2, 3, 0, 1, 2])

    def test_one_strength_at_each_end(self):
        self.assertEqual(only([create(1, 1, 1), set_strength(1, 0)], STATUS), [0, 1, 1, 1, 0, 0, 0] + [1] * 8)
        self.assertEqual(only([create(1, 1, 1), set_strength(9, 3)], STATUS), [0, 1, 1, 1, 0, 0] + [1] * 8 + [3])

    def test_errors_are_not_seen(self):
        wrong = (create(7, 1, 1), set_threshold(5), set_strength(1, 4), set_strength(10, 1), add_seed(3, 0, 0),
                 attach(1, 0, 0), add_tile_type(1, 2, 3), remove_seed(1, 0), get_tile_type(3))
        self.assertEqual(only(ROW + (GROW,) + wrong, STATUS), [3, 3, 1, 1, 1, 2] + ONES)


class TerminalGrid(unittest.TestCase):

    def test_is_the_grid_behind_grow(self):
        for start in (ROW, ROW + (attach(1, 0, 1),), ROW + (GROW,), ROW + (set_strength(2, 0),)):
            found = told_behind(start, TERMINAL_GRID, GET_GRID, GROW, GET_GRID)
            self.assertEqual(found[0], found[3])
            self.assertEqual(found[1], only(start, GET_GRID))

    def test_nothing_grows(self):
        for width, height in ((1, 1), (6, 1), (6, 6)):
            empty = [0] + [0] * (width * height)
            self.assertEqual(only([create(width, height, 1)], TERMINAL_GRID), empty)
            twelve = [add_tile_type(1, 1, 1, 1)] * 12
            self.assertEqual(only([create(width, height, 1)] + twelve, TERMINAL_GRID), empty)
        self.assertEqual(only(ROW + (set_threshold(2),), TERMINAL_GRID), [1, 1, 0, 0])
        self.assertEqual(only(ROW + (set_strength(1, 0),), TERMINAL_GRID), [1, 1, 0, 0])

    def test_stays_partly_empty(self):
        self.assertEqual(only(ROW + (set_strength(2, 0),), TERMINAL_GRID), [2, 1, 2, 0])

    def test_takes_the_smallest_kind(self):
        kinds = [add_tile_type(0, 1, 0, 0), add_tile_type(0, 0, 0, 1), add_tile_type(0, 2, 0, 1),
                 add_tile_type(0, 0, 0, 2)]
        self.assertEqual(only([create(3, 1, 1), *kinds, add_seed(0, 0, 0)], TERMINAL_GRID), [2, 1, 2, 0])
        # A tile that is attached already stays, though growing would have taken another.
        self.assertEqual(only([create(3, 1, 1), *kinds, add_seed(0, 0, 0), attach(1, 0, 2)], TERMINAL_GRID),
                         [3, 1, 3, 4])

    def test_threshold_four(self):
        # The middle is held by four bonds of 1, or by two of 2.
        start = [create(3, 3, 4), add_tile_type(1, 1, 1, 1)]
        start += [add_seed(x, y, 0) for x, y in ((1, 0), (0, 1), (2, 1), (1, 2))]
        self.assertEqual(only(start, TERMINAL_GRID), [5, 0, 1, 0, 1, 1, 1, 0, 1, 0])
        self.assertEqual(only(start + [set_strength(1, 2)], TERMINAL_GRID), [9] + [1] * 9)
        self.assertEqual(only(start[:-1], TERMINAL_GRID), [3, 0, 1, 0, 1, 0, 1, 0, 0, 0])

    def test_full(self):
        start = [create(6, 6, 1), add_tile_type(1, 1, 1, 1), add_seed(5, 5, 0)]
        self.assertEqual(told_behind(start, TERMINAL_GRID, GROW, TERMINAL_GRID),
                         [[36] + [1] * 36, [35], [36] + [1] * 36])


class NoInstance(unittest.TestCase):

    def test_until_create_has_succeeded(self):
        for call in (GET_GRID, get_tile_type(0), get_tile_type(HUGE), STATUS, TERMINAL_GRID):
            self.assertEqual(told(call), [[-11]])
            self.assertEqual(told(create(1, 1, 5), call), [[-22], [-11]])
            self.assertNotEqual(told(create(1, 1, 4), call)[1], [-11])


if __name__ == "__main__":
    unittest.main()
