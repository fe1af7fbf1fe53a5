"""How calls and answers are written, and what one call of `answers` keeps from another."""

import unittest

from gluetilesdesk.board import answers
from helper import (ALTERNATIVES, EVERY_CALL_BUT_CREATE, FIRST_ALTERNATIVE, GET_GRID, GROW, HUGE, INDEPENDENT,
                    IS_UNIQUE, MAX_PREREQUISITES, ROUNDS, ROW, STATUS, TERMINAL_GRID, UNDO, add_seed, add_tile_type,
                    ask, create, get_tile_type, grid_without, joined, last, prerequisites, set_strength,
                    set_threshold, told)

# Every report has something to tell: position 1 may get kind 1 or kind 3.
ALL_SORTS = ROW + (
    add_tile_type(0, 0, 0, 1), GET_GRID, get_tile_type(1), STATUS, IS_UNIQUE, FIRST_ALTERNATIVE, ALTERNATIVES,
    TERMINAL_GRID, grid_without(2, 0), prerequisites(2, 0), MAX_PREREQUISITES, INDEPENDENT, GROW, IS_UNIQUE, ROUNDS,
    UNDO, add_tile_type(9, 9, 9, 9), add_tile_type(), create(7, 1, 1), get_tile_type(HUGE), prerequisites(0, 0))


class WatchedList(list):
    """A list that fails as soon as something tries to change it, even if it would change it back."""

    def refuse(self, *args, **kwargs):
        raise AssertionError("what is handed in was changed")

    append = extend = insert = pop = remove = clear = sort = reverse = refuse
    __setitem__ = __delitem__ = __iadd__ = __imul__ = refuse


class Writing(unittest.TestCase):

    def test_no_calls(self):
        self.assertEqual(answers([]), [])

    def test_each_answer_has_its_count_ahead(self):
        self.assertEqual(answers([0, 3, 1, 1]), [1, 0])
        self.assertEqual(answers([0, 3, 1, 1, 1, 4, 0, 1, 0, 0, 7, 9]), [1, 0, 1, 0, 1, -6, 1, 0])

    def test_example_up_to_the_seed(self):
        self.assertEqual(answers(joined(ROW)), [1, 0, 1, 0, 1, 1, 1, 2, 1, 1])

    def test_the_answer_is_a_list_of_whole_numbers(self):
        written = answers(joined(ALL_SORTS))
        self.assertIs(type(written), list)
        self.assertEqual({type(number) for number in written}, {int})

    def test_the_row_of_glues_tells_where_the_next_call_begins(self):
        for length in (0, 1, 3, 5, 255):
            calls = [create(2, 2, 1), add_tile_type(*[7] * length), set_threshold(3), set_threshold(1)]
            self.assertEqual(ask(*calls), [0, -22, 1, 3], length)

    def test_each_answer_number_by_number(self):
        self.assertEqual(told(*ALL_SORTS)[5:], [
            [3], [1, 1, 0, 0], [4, 0, 2, 0, 1], [4, 3, 1, 1, 1, 0] + [1] * 9, [0], [1, 1, 3], [1, 1, 3], [3, 1, 2, 3],
            [2, 1, 2, 0], [1, 1], [1], [1, 1], [2], [1], [0], [1], [4], [-22], [-22], [-2], [-17]])

    def test_an_error_is_its_code_alone(self):
        calls = (get_tile_type(3), FIRST_ALTERNATIVE, grid_without(3, 0), grid_without(0, 0), prerequisites(3, 0),
                 prerequisites(0, 0), set_strength(2, 0), prerequisites(2, 0))
        written = answers(joined(ROW + calls))
        self.assertEqual(written[2 * len(ROW):],
                         [1, -2, 1, -33, 1, -2, 1, -17, 1, -2, 1, -17, 1, 1, 1, -33])

    def test_no_other_number_is_below_zero(self):
        for answer in told(*ALL_SORTS):
            self.assertTrue(len(answer) == 1 or min(answer) >= 0, answer)

    def test_forty_calls_on_a_large_grid(self):
        start = [create(6, 6, 1)] + [add_tile_type(1, 1, 1, 1)] * 12 + [add_seed(0, 0, 0)]
        found = told(*start, *[ALTERNATIVES] * 26)
        self.assertEqual([len(answer) for answer in found[14:]], [1 + 2 * 35 * 11] * 26)

    def test_a_list_as_long_as_may_be(self):
        calls = [add_tile_type(*[HUGE] * 255)] * 40
        self.assertEqual(len(joined(calls)), 10280)
        self.assertEqual(ask(*calls), [-11] * 40)
        self.assertEqual(ask(create(1, 1, 1), *calls[1:]), [0] + [-22] * 39)

    def test_each_call_ends_where_the_next_begins(self):
        for call in EVERY_CALL_BUT_CREATE:
            self.assertEqual(answers(call + create(1, 1, 1) + GROW), [1, -11, 1, 0, 1, 0], call)

    def test_each_call_on_an_instance_ends_where_the_next_begins(self):
        for call in EVERY_CALL_BUT_CREATE:
            self.assertEqual(told(*ROW, call, create(1, 1, 1), GET_GRID)[-2:], [[0], [0, 0]], call)


class Keeping(unittest.TestCase):

    def test_calls_are_not_changed(self):
        calls = joined(ALL_SORTS)
        before = list(calls)
        answers(calls)
        self.assertEqual(calls, before)

    def test_calls_are_not_changed_for_a_while(self):
        calls = joined(ALL_SORTS)
        self.assertEqual(answers(WatchedList(calls)), answers(calls))

    def test_no_instance_is_kept(self):
        ask(*ROW, GROW)
        self.assertEqual(ask(GROW), [-11])

    def test_nothing_is_kept_within_an_instance(self):
        calls = ROW + (set_strength(1, 3), set_threshold(2), GROW)
        first = ask(*calls)
        self.assertEqual(first, [0, 0, 1, 2, 1, 1, 1, 1])
        self.assertEqual(ask(*calls), first)
        self.assertEqual(told(*ALL_SORTS), told(*ALL_SORTS))

    def test_changing_an_answer_changes_no_later_one(self):
        calls = joined(ALL_SORTS)
        written = answers(calls)
        kept = list(written)
        written.clear()
        self.assertEqual(answers(calls), kept)


class NoInstance(unittest.TestCase):

    def test_every_call_but_create(self):
        for call in EVERY_CALL_BUT_CREATE:
            self.assertEqual(answers(call), [1, -11], call)

    def test_all_in_one_list(self):
        self.assertEqual(ask(*EVERY_CALL_BUT_CREATE), [-11] * 21)

    def test_ahead_of_all_other_errors(self):
        wrong = (add_tile_type(), add_tile_type(*[HUGE] * 255), set_strength(0, 4), set_threshold(HUGE),
                 add_seed(HUGE, HUGE, HUGE), [5, HUGE, HUGE], [6, HUGE, HUGE, HUGE], [12, HUGE],
                 [18, HUGE, HUGE], [19, HUGE, HUGE])
        self.assertEqual(ask(*wrong), [-11] * len(wrong))

    def test_behind_a_create_that_failed(self):
        for failed in (create(0, 1, 1), create(1, 7, 1), create(1, 1, 5), create(HUGE, HUGE, HUGE)):
            for call in EVERY_CALL_BUT_CREATE:
                self.assertEqual(ask(failed, call), [-22, -11], (failed, call))

    def test_create_may_come_late(self):
        self.assertEqual(ask(GROW, create(0, 1, 1), GROW, create(1, 1, 1), GROW), [-11, -22, -11, 0, 0])

    def test_a_failed_create_does_not_bring_the_error_back(self):
        self.assertEqual(last(*ROW, create(0, 1, 1), GROW), 2)


if __name__ == "__main__":
    unittest.main()
