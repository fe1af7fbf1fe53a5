"""The calls 6 to 10: attaching, taking back, growing and parallel rounds."""

import unittest

from helper import (CLEAR, GROW, HUGE, ROUNDS, ROW, UNDO, add_seed, add_tile_type, ask, attach, create, last,
                    set_strength, set_threshold)

# A grid on which one kind with glue 1 all around spreads from a seed in the south-west.
SPREAD = (create(6, 6, 1), add_tile_type(1, 1, 1, 1), add_seed(0, 0, 0))

# Seeds of the kinds 0 and 3 at the two ends of the south row. Kind 2 binds to the west end, kind 4 to the east end;
# kind 1 binds to the east of kind 2, kind 5 to the north of kind 4.
FORK = (create(4, 2, 1), add_tile_type(0, 1, 0, 0), add_tile_type(0, 0, 0, 5), add_tile_type(0, 5, 0, 1),
        add_tile_type(0, 0, 0, 6), add_tile_type(7, 6, 0, 0), add_tile_type(0, 0, 7, 0), add_seed(0, 0, 0),
        add_seed(3, 0, 3))


class Attach(unittest.TestCase):

    def test_gives_back_the_binding_strength(self):
        self.assertEqual(ask(*ROW, attach(1, 0, 1), attach(2, 0, 2))[-2:], [1, 1])

    def test_adds_the_bonds_of_all_neighbours(self):
        start = [create(3, 3, 4)] + [add_tile_type(*glues) for glues in (
            (0, 0, 1, 0), (0, 0, 0, 2), (3, 0, 0, 0), (0, 4, 0, 0), (1, 2, 3, 4))]
        seeds = [add_seed(1, 2, 0), add_seed(2, 1, 1), add_seed(1, 0, 2), add_seed(0, 1, 3)]
        self.assertEqual(last(*start, *seeds, attach(1, 1, 4)), 4)
        self.assertEqual(last(*start, *seeds[:3], attach(1, 1, 4)), -14)
        self.assertEqual(last(*start, *seeds[:3], set_strength(2, 3), attach(1, 1, 4)), 5)
        strong = [set_strength(glue, 3) for glue in range(1, 5)]
        self.assertEqual(last(*start, *seeds, *strong, attach(1, 1, 4)), 12)

    def test_other_glues_do_not_bind(self):
        self.assertEqual(last(*ROW, attach(1, 0, 2)), -14)
        self.assertEqual(last(*ROW, attach(1, 0, 0)), -14)

    def test_glue_zero_does_not_bind(self):
        calls = [create(2, 1, 1), add_tile_type(0, 0, 0, 0), add_seed(0, 0, 0)]
        self.assertEqual(ask(*calls, attach(1, 0, 0), GROW, ROUNDS)[-3:], [-14, 0, 0])

    def test_glue_nine_binds(self):
        calls = [create(2, 1, 3), add_tile_type(0, 9, 0, 9), add_seed(0, 0, 0), set_strength(9, 3)]
        self.assertEqual(last(*calls, attach(1, 0, 0)), 3)

    def test_a_glue_of_strength_zero_does_not_bind(self):
        self.assertEqual(ask(*ROW, set_strength(1, 0), attach(1, 0, 1), GROW, ROUNDS)[-3:], [-14, 0, 0])

    def test_nothing_binds_over_the_edge(self):
        # The last of one row and the first of the next have numbers that follow one another.
        calls = [create(2, 2, 1), add_tile_type(0, 1, 0, 1), add_seed(1, 0, 0)]
        self.assertEqual(ask(*calls, attach(0, 1, 0), attach(1, 1, 0), attach(0, 0, 0))[-3:], [-14, -14, 1])

    def test_opposite_edges_are_not_neighbours(self):
        kind = add_tile_type(1, 1, 1, 1)
        for size, near, far in (((1, 3), (0, 0), (0, 2)), ((3, 1), (0, 0), (2, 0)), ((6, 6), (3, 0), (3, 5))):
            self.assertEqual(last(create(*size, 1), kind, add_seed(*near, 0), attach(*far, 0)), -14)
            self.assertEqual(last(create(*size, 1), kind, add_seed(*far, 0), attach(*near, 0)), -14)

    def test_the_first_tile_needs_a_seed(self):
        self.assertEqual(last(create(1, 1, 1), add_tile_type(1, 1, 1, 1), attach(0, 0, 0)), -14)

    def test_no_such_position_or_kind(self):
        for x, y, kind in ((3, 0, 0), (0, 1, 0), (1, 0, 3), (1, 0, 12), (HUGE, 0, 0), (0, HUGE, 0), (0, 0, HUGE),
                           (HUGE, HUGE, HUGE)):
            self.assertEqual(last(*ROW, attach(x, y, kind)), -2)

    def test_there_is_a_tile(self):
        self.assertEqual(last(*ROW, attach(0, 0, 0)), -17)
        self.assertEqual(last(*ROW, attach(1, 0, 1), attach(1, 0, 1)), -17)
        self.assertEqual(last(*SPREAD, GROW, attach(5, 5, 0)), -17)

    def test_order_of_the_errors(self):
        self.assertEqual(last(*ROW, attach(0, 0, 3)), -2)
        self.assertEqual(last(*ROW, attach(3, 0, 0)), -2)
        self.assertEqual(last(*ROW, attach(0, 0, 2)), -17)
        self.assertEqual(last(*ROW, attach(2, 0, 1)), -14)

    def test_attached_tiles_bind(self):
        self.assertEqual(ask(*ROW, attach(2, 0, 2), attach(1, 0, 1), attach(2, 0, 2))[-3:], [-14, 1, 1])

    def test_just_at_and_just_below_the_threshold(self):
        for threshold in range(1, 5):
            found = last(*SPREAD, set_threshold(threshold), set_strength(1, 3), attach(1, 0, 0))
            self.assertEqual(found, 3 if threshold <= 3 else -14)


class UndoAttach(unittest.TestCase):

    def test_takes_the_last(self):
        self.assertEqual(ask(*ROW, GROW, UNDO, attach(2, 0, 2), UNDO, UNDO, attach(2, 0, 2))[-6:],
                         [2, 1, 1, 1, 0, -14])

    def test_takes_the_last_attached_not_the_greatest_position(self):
        calls = [create(3, 1, 1), add_tile_type(0, 1, 0, 1), add_seed(2, 0, 0), attach(1, 0, 0), attach(0, 0, 0)]
        self.assertEqual(ask(*calls, UNDO, attach(1, 0, 0), attach(0, 0, 0))[-3:], [1, -17, 1])

    def test_takes_back_what_grow_attached_in_its_order(self):
        # From the seed in the middle, the west is attached ahead of the east.
        calls = [create(3, 1, 1), add_tile_type(0, 1, 0, 1), add_seed(1, 0, 0), GROW, UNDO]
        self.assertEqual(ask(*calls, attach(0, 0, 0), attach(2, 0, 0))[-2:], [-17, 1])

    def test_nothing_attached(self):
        self.assertEqual(ask(create(1, 1, 1), UNDO), [0, -6])
        self.assertEqual(last(*ROW, UNDO), -6)
        self.assertEqual(ask(*ROW, attach(1, 0, 1), UNDO, UNDO, UNDO)[-3:], [0, -6, -6])


class ClearAttached(unittest.TestCase):

    def test_counts_what_was_removed(self):
        self.assertEqual(ask(*ROW, GROW, CLEAR, CLEAR)[-3:], [2, 2, 0])
        self.assertEqual(ask(create(1, 1, 1), CLEAR), [0, 0])

    def test_seeds_stay(self):
        self.assertEqual(ask(*ROW, GROW, CLEAR, UNDO, attach(0, 0, 0), GROW)[-5:], [2, 2, -6, -17, 2])


class Grow(unittest.TestCase):

    def test_counts_what_was_attached(self):
        self.assertEqual(ask(*ROW, GROW, GROW)[-2:], [2, 0])
        self.assertEqual(ask(*ROW, attach(1, 0, 1), GROW, CLEAR)[-3:], [1, 1, 2])

    def test_fills_a_grid(self):
        self.assertEqual(ask(*SPREAD, GROW, GROW, ROUNDS, CLEAR)[-4:], [35, 0, 0, 35])

    def test_nothing_to_grow(self):
        self.assertEqual(ask(create(6, 6, 1), GROW), [0, 0])
        self.assertEqual(last(create(6, 6, 1), add_tile_type(1, 1, 1, 1), GROW), 0)
        self.assertEqual(last(create(1, 1, 1), add_tile_type(1, 1, 1, 1), add_seed(0, 0, 0), GROW), 0)

    def test_takes_the_smallest_kind(self):
        # The kinds 1 and 2 both fit; only kind 1 lets kind 3 follow.
        kinds = [add_tile_type(0, 1, 0, 0), add_tile_type(0, 2, 0, 1), add_tile_type(0, 0, 0, 1),
                 add_tile_type(0, 0, 0, 2)]
        self.assertEqual(last(create(3, 1, 1), *kinds, add_seed(0, 0, 0), GROW), 2)
        kinds = [kinds[0], kinds[2], kinds[1], kinds[3]]
        self.assertEqual(last(create(3, 1, 1), *kinds, add_seed(0, 0, 0), GROW), 1)

    def test_takes_the_smallest_position_ahead_of_the_smallest_kind(self):
        # West of the seed only kind 2 fits, east of it only kind 1: the west is taken first.
        calls = [create(3, 1, 1), add_tile_type(0, 2, 0, 1), add_tile_type(0, 0, 0, 2), add_tile_type(0, 1, 0, 0),
                 add_seed(1, 0, 0), GROW, UNDO]
        self.assertEqual(ask(*calls, attach(0, 0, 2), attach(2, 0, 1))[-4:], [2, 1, -17, 1])

    def test_takes_the_smallest_position_at_each_step(self):
        # A tile in the south is attached as soon as it can be, ahead of one farther north.
        calls = [create(2, 2, 1), add_tile_type(1, 1, 1, 1), add_seed(1, 1, 0), GROW]
        self.assertEqual(ask(*calls, UNDO, attach(0, 0, 0), attach(1, 0, 0), attach(0, 1, 0))[-4:],
                         [2, -17, -17, 2])

    def test_a_tile_taken_early_shuts_out_another(self):
        # Position 1 is filled ahead of position 2, and so kind 1 fits there ahead of kind 4, which kind 5 needs.
        self.assertEqual(ask(*FORK, GROW, GROW)[-2:], [2, 0])

    def test_two_bonds_together(self):
        calls = [create(2, 2, 2), add_tile_type(1, 1, 1, 1), add_seed(0, 1, 0), add_seed(1, 0, 0)]
        self.assertEqual(ask(*calls, GROW, CLEAR)[-2:], [2, 2])


class ParallelRounds(unittest.TestCase):

    def test_counts_rounds(self):
        self.assertEqual(last(*ROW, ROUNDS), 2)
        self.assertEqual(last(*ROW, attach(1, 0, 1), ROUNDS), 1)
        self.assertEqual(last(*ROW, GROW, ROUNDS), 0)

    def test_a_round_is_all_at_the_same_time(self):
        self.assertEqual(last(*SPREAD, ROUNDS), 10)
        self.assertEqual(last(create(5, 5, 1), add_tile_type(1, 1, 1, 1), add_seed(2, 2, 0), ROUNDS), 4)

    def test_tiles_of_one_round_do_not_bind_to_one_another(self):
        for seed in (add_seed(0, 0, 0), add_seed(1, 0, 0), add_seed(0, 1, 0), add_seed(1, 1, 0)):
            self.assertEqual(last(create(2, 2, 1), add_tile_type(1, 1, 1, 1), seed, ROUNDS), 2)

    def test_takes_the_smallest_kind(self):
        kinds = [add_tile_type(0, 1, 0, 0), add_tile_type(0, 2, 0, 1), add_tile_type(0, 0, 0, 1),
                 add_tile_type(0, 0, 0, 2)]
        self.assertEqual(last(create(3, 1, 1), *kinds, add_seed(0, 0, 0), ROUNDS), 2)
        kinds = [kinds[0], kinds[2], kinds[1], kinds[3]]
        self.assertEqual(last(create(3, 1, 1), *kinds, add_seed(0, 0, 0), ROUNDS), 1)

    def test_may_end_in_another_grid_than_growing(self):
        # In the first round position 2 gets kind 4, because position 1 is still empty; in the second, kind 5 follows.
        self.assertEqual(ask(*FORK, ROUNDS, GROW, ROUNDS)[-3:], [2, 2, 0])

    def test_nothing_attachable(self):
        self.assertEqual(ask(create(6, 6, 4), ROUNDS), [0, 0])
        self.assertEqual(last(*ROW, set_threshold(4), ROUNDS), 0)

    def test_changes_nothing(self):
        calls = ROW + (attach(1, 0, 1),)
        self.assertEqual(ask(*calls, ROUNDS, ROUNDS, UNDO, ROUNDS, UNDO, GROW)[-6:], [1, 1, 0, 2, -6, 2])


if __name__ == "__main__":
    unittest.main()
