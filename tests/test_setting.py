"""The calls 0 to 5: create, tile kinds, strengths, threshold and seeds."""

import unittest

from helper import (GROW, HUGE, ROUNDS, ROW, UNDO, add_seed, add_tile_type, ask, attach, create, last, remove_seed,
                    set_strength, set_threshold)


class Create(unittest.TestCase):

    def test_every_size_and_threshold_in_its_limits(self):
        for width in range(1, 7):
            for height in range(1, 7):
                for threshold in range(1, 5):
                    corner = add_seed(width - 1, height - 1, 0)
                    calls = [create(width, height, threshold), add_tile_type(0, 0, 0, 0), corner,
                             add_seed(width, 0, 0), add_seed(0, height, 0), set_threshold(1)]
                    self.assertEqual(ask(*calls), [0, 0, 1, -2, -2, threshold])

    def test_out_of_limits(self):
        for wrong in (0, 7, 8, 255, HUGE):
            self.assertEqual(ask(create(wrong, 1, 1)), [-22])
            self.assertEqual(ask(create(1, wrong, 1)), [-22])
        for wrong in (0, 5, 6, HUGE):
            self.assertEqual(ask(create(1, 1, wrong)), [-22])
        self.assertEqual(ask(create(0, 0, 0), create(HUGE, HUGE, HUGE)), [-22, -22])

    def test_replaces_the_instance(self):
        calls = ROW + (set_strength(4, 3), set_threshold(2), create(2, 6, 4))
        self.assertEqual(ask(*calls, UNDO, set_strength(4, 1), set_threshold(4)), ask(*calls) + [-6, 1, 4])
        self.assertEqual(last(*calls, add_seed(0, 0, 0)), -2)
        self.assertEqual(last(*calls, remove_seed(0, 0)), -33)
        self.assertEqual(last(*calls, add_tile_type(0, 0, 0, 0)), 0)
        self.assertEqual(last(*calls, add_tile_type(0, 0, 0, 0), add_seed(1, 5, 0)), 1)

    def test_replaces_the_attached_tiles(self):
        self.assertEqual(ask(*ROW, GROW, create(3, 1, 1), UNDO)[-3:], [2, 0, -6])

    def test_a_failed_create_leaves_the_instance(self):
        for failed in (create(0, 1, 1), create(1, 7, 1), create(3, 1, 5), create(HUGE, HUGE, HUGE)):
            self.assertEqual(ask(*ROW, attach(1, 0, 1), failed, attach(2, 0, 2), UNDO, UNDO, UNDO)[-6:],
                             [1, -22, 1, 1, 0, -6])

    def test_strengths_are_one(self):
        self.assertEqual(ask(create(1, 1, 1), *[set_strength(glue, 0) for glue in range(1, 10)]), [0] + [1] * 9)


class AddTileKind(unittest.TestCase):

    def test_numbers_count_from_zero_up_to_twelve_kinds(self):
        calls = [create(6, 6, 1)] + [add_tile_type(0, 9, 5, 1)] * 14
        self.assertEqual(ask(*calls), [0] + list(range(12)) + [-28, -28])

    def test_glues_zero_and_nine(self):
        calls = [create(1, 1, 1), add_tile_type(0, 0, 0, 0), add_tile_type(9, 9, 9, 9), add_tile_type(0, 9, 0, 9)]
        self.assertEqual(ask(*calls), [0, 0, 1, 2])

    def test_glue_too_great_on_each_side(self):
        for wrong in (10, 11, 255, HUGE):
            for side in range(4):
                glues = [9, 0, 9, 0]
                glues[side] = wrong
                self.assertEqual(ask(create(1, 1, 1), add_tile_type(*glues)), [0, -22])

    def test_not_four_glues(self):
        for length in (0, 1, 2, 3, 5, 6, 8, 254, 255):
            for glue in (0, 1, 9, 10, HUGE):
                self.assertEqual(ask(create(1, 1, 1), add_tile_type(*[glue] * length)), [0, -22])

    def test_a_failed_one_takes_no_number(self):
        calls = [create(1, 1, 1), add_tile_type(), add_tile_type(0, 0, 0, 10), add_tile_type(0, 0, 0, 0)]
        self.assertEqual(ask(*calls), [0, -22, -22, 0])

    def test_limits_come_ahead_of_too_many(self):
        full = [create(1, 1, 1)] + [add_tile_type(1, 2, 3, 4)] * 12
        for wrong in (add_tile_type(), add_tile_type(1, 2, 3), add_tile_type(1, 2, 3, 4, 5),
                      add_tile_type(1, 2, 3, 10), add_tile_type(*[HUGE] * 255)):
            self.assertEqual(last(*full, wrong), -22)
        self.assertEqual(last(*full, add_tile_type(1, 2, 3, 9)), -28)

    def test_the_glues_are_north_east_south_west(self):
        # Each kind binds with the glue 1 on one side alone; its seed has glue 1 all around.
        middle = [create(3, 3, 1), add_tile_type(1, 1, 1, 1), add_seed(1, 1, 0)]
        fits = {(1, 0): (1, 0, 0, 0), (0, 1): (0, 1, 0, 0), (1, 2): (0, 0, 1, 0), (2, 1): (0, 0, 0, 1)}
        for place in fits:
            for other in fits:
                found = last(*middle, add_tile_type(*fits[other]), attach(*place, 1))
                self.assertEqual(found, 1 if place == other else -14, (place, other))


class SetStrength(unittest.TestCase):

    def test_gives_back_the_former(self):
        calls = [create(1, 1, 1), set_strength(1, 0), set_strength(1, 3), set_strength(1, 2), set_strength(1, 2),
                 set_strength(9, 3), set_strength(9, 0), set_strength(9, 1), set_strength(1, 1)]
        self.assertEqual(ask(*calls), [0, 1, 0, 3, 2, 1, 3, 0, 2])

    def test_each_glue_for_itself(self):
        calls = [create(1, 1, 1)] + [set_strength(glue, glue % 4) for glue in range(1, 10)]
        again = [set_strength(glue, 0) for glue in range(1, 10)]
        self.assertEqual(ask(*calls, *again)[10:], [glue % 4 for glue in range(1, 10)])

    def test_out_of_limits(self):
        for glue, strength in ((0, 0), (0, 1), (10, 1), (HUGE, 1), (1, 4), (9, 4), (5, HUGE), (0, 4), (HUGE, HUGE)):
            self.assertEqual(ask(create(1, 1, 1), set_strength(glue, strength)), [0, -22])

    def test_strength_counts_in_bonds(self):
        for strength in range(4):
            for threshold in range(1, 5):
                found = last(*ROW, set_threshold(threshold), set_strength(1, strength), attach(1, 0, 1))
                self.assertEqual(found, strength if strength >= threshold else -14)


class SetThreshold(unittest.TestCase):

    def test_gives_back_the_former(self):
        calls = [create(1, 1, 3), set_threshold(1), set_threshold(4), set_threshold(4), set_threshold(2)]
        self.assertEqual(ask(*calls), [0, 3, 1, 4, 4])

    def test_out_of_limits(self):
        for wrong in (0, 5, 6, 255, HUGE):
            self.assertEqual(ask(create(1, 1, 2), set_threshold(wrong), set_threshold(1)), [0, -22, 2])

    def test_counts_in_attaching(self):
        self.assertEqual(ask(*ROW, set_threshold(2), attach(1, 0, 1), GROW, ROUNDS)[-3:], [-14, 0, 0])


class AddSeed(unittest.TestCase):

    def test_counts_up_to_a_full_grid(self):
        start = [create(6, 6, 4), add_tile_type(0, 0, 0, 0)]
        places = [add_seed(number % 6, number // 6, 0) for number in range(36)]
        self.assertEqual(ask(*start, *places, GROW, ROUNDS), [0, 0] + list(range(1, 37)) + [0, 0])

    def test_without_regard_to_bonds(self):
        calls = [create(2, 1, 4), add_tile_type(1, 1, 1, 1), add_tile_type(2, 2, 2, 2), add_seed(0, 0, 0),
                 add_seed(1, 0, 1)]
        self.assertEqual(ask(*calls), [0, 0, 1, 1, 2])

    def test_no_such_position_or_kind(self):
        start = [create(3, 2, 1), add_tile_type(0, 0, 0, 0)]
        for x, y, kind in ((3, 0, 0), (0, 2, 0), (2, 2, 0), (3, 1, 0), (0, 0, 1), (2, 1, 12), (HUGE, 0, 0),
                           (0, HUGE, 0), (0, 0, HUGE), (HUGE, HUGE, HUGE)):
            self.assertEqual(last(*start, add_seed(x, y, kind)), -2)
        self.assertEqual(last(create(1, 1, 1), add_seed(0, 0, 0)), -2)

    def test_there_is_a_seed(self):
        self.assertEqual(last(*ROW, add_seed(0, 0, 0)), -17)
        self.assertEqual(last(*ROW, add_seed(0, 0, 2)), -17)

    def test_no_such_kind_comes_ahead_of_a_seed_that_is_there(self):
        self.assertEqual(last(*ROW, add_seed(0, 0, 3)), -2)
        self.assertEqual(last(*ROW, add_seed(0, 0, HUGE)), -2)

    def test_an_attached_tile_is_no_seed(self):
        self.assertEqual(ask(*ROW, attach(1, 0, 1), add_seed(1, 0, 0), UNDO, attach(2, 0, 2))[-4:], [1, 2, -6, -14])

    def test_the_seed_is_of_its_kind_at_its_position(self):
        start = [create(2, 3, 1), add_tile_type(0, 0, 0, 0), add_tile_type(0, 0, 5, 0), add_tile_type(5, 0, 0, 0)]
        self.assertEqual(ask(*start, add_seed(1, 2, 1), attach(1, 1, 2))[-2:], [1, 1])
        self.assertEqual(ask(*start, add_seed(1, 2, 0), attach(1, 1, 2))[-2:], [1, -14])
        self.assertEqual(ask(*start, add_seed(0, 2, 1), attach(1, 1, 2))[-2:], [1, -14])


class RemoveSeed(unittest.TestCase):

    def test_counts_down(self):
        calls = ROW + (add_seed(2, 0, 2), add_seed(1, 0, 1), remove_seed(0, 0), remove_seed(1, 0), remove_seed(2, 0))
        self.assertEqual(ask(*calls)[-5:], [2, 3, 2, 1, 0])

    def test_no_such_position(self):
        for x, y in ((3, 0), (0, 1), (HUGE, 0), (0, HUGE), (HUGE, HUGE)):
            self.assertEqual(last(*ROW, remove_seed(x, y)), -2)
        # (3, 0) would be the number of (0, 1) if it were not looked at by itself.
        self.assertEqual(ask(create(3, 2, 1), add_tile_type(0, 0, 0, 0), add_seed(0, 1, 0), remove_seed(3, 0))[-1], -2)

    def test_no_seed_there(self):
        self.assertEqual(last(*ROW, remove_seed(1, 0)), -33)
        self.assertEqual(ask(*ROW, remove_seed(0, 0), remove_seed(0, 0))[-2:], [0, -33])

    def test_an_attached_tile_is_no_seed(self):
        self.assertEqual(ask(*ROW, GROW, remove_seed(1, 0), UNDO)[-3:], [2, -33, 1])

    def test_the_seed_is_gone(self):
        self.assertEqual(ask(*ROW, remove_seed(0, 0), attach(1, 0, 1), GROW, add_seed(0, 0, 0), GROW)[-5:],
                         [0, -14, 0, 1, 2])


if __name__ == "__main__":
    unittest.main()
