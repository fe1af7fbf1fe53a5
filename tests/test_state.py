"""What each call leaves of the state: nothing is changed by an error or a report."""

import unittest

from gluetilesdesk.board import answer_call
from gluetilesdesk.growth import count_rounds, growth_steps
from gluetilesdesk.instance import Session, current_grid
from gluetilesdesk.reading import given_begin, given_end
from helper import (ALTERNATIVES, CLEAR, FIRST_ALTERNATIVE, GET_GRID, GROW, HUGE, INDEPENDENT, IS_UNIQUE,
                    MAX_PREREQUISITES, ROUNDS, ROW, STATUS, TERMINAL_GRID, UNDO, add_seed, add_tile_type, ask, attach,
                    create, get_tile_type, grid_without, joined, prerequisites, remove_seed, set_strength,
                    set_threshold, told, told_behind)

# Two of the four tiles that can be attached are there: in the south row, and none yet beside the seed in the north.
BUSY = (
    create(4, 2, 2),
    add_tile_type(0, 1, 0, 0),
    add_tile_type(0, 2, 0, 1),
    add_tile_type(0, 0, 0, 2),
    set_strength(1, 3),
    set_strength(2, 2),
    set_strength(9, 0),
    add_seed(0, 0, 0),
    add_seed(3, 1, 2),
    attach(1, 0, 1),
    attach(2, 0, 2),
)
FULL_OF_KINDS = (create(4, 2, 2),) + BUSY[1:4] + (add_tile_type(9, 9, 9, 9),) * 9 + BUSY[4:]

# Calls that are refused on BUSY, and by which code.
REFUSED = (
    (create(0, 1, 1), -22), (create(7, 1, 1), -22), (create(1, 0, 1), -22), (create(1, 7, 1), -22),
    (create(1, 1, 0), -22), (create(1, 1, 5), -22), (create(HUGE, HUGE, HUGE), -22),
    (add_tile_type(), -22), (add_tile_type(1, 2, 3), -22), (add_tile_type(1, 2, 3, 4, 5), -22),
    (add_tile_type(1, 2, 3, 10), -22), (add_tile_type(*[0] * 255), -22),
    (set_strength(0, 1), -22), (set_strength(10, 1), -22), (set_strength(1, 4), -22),
    (set_strength(HUGE, HUGE), -22),
    (set_threshold(0), -22), (set_threshold(5), -22), (set_threshold(HUGE), -22),
    (add_seed(4, 0, 0), -2), (add_seed(0, 2, 0), -2), (add_seed(0, 1, 3), -2), (add_seed(HUGE, HUGE, HUGE), -2),
    (add_seed(0, 0, 1), -17),
    (remove_seed(4, 0), -2), (remove_seed(0, 2), -2), (remove_seed(HUGE, HUGE), -2),
    (remove_seed(1, 0), -33), (remove_seed(0, 1), -33),
    (attach(4, 0, 0), -2), (attach(0, 2, 0), -2), (attach(0, 1, 3), -2), (attach(HUGE, HUGE, HUGE), -2),
    (attach(0, 0, 0), -17), (attach(1, 0, 1), -17), (attach(0, 1, 0), -14), (attach(3, 0, 1), -14),
    (get_tile_type(3), -2), (get_tile_type(HUGE), -2), (FIRST_ALTERNATIVE, -33),
    (grid_without(4, 0), -2), (grid_without(0, 2), -2), (grid_without(HUGE, HUGE), -2),
    (grid_without(0, 0), -17), (grid_without(1, 0), -17),
    (prerequisites(4, 0), -2), (prerequisites(0, 2), -2), (prerequisites(HUGE, HUGE), -2),
    (prerequisites(3, 1), -17), (prerequisites(2, 0), -17), (prerequisites(3, 0), -33), (prerequisites(0, 1), -33),
)

# The five operations that remove all attached tiles when they succeed, with what they answer on BUSY.
DROPPING = (
    (add_tile_type(0, 0, 0, 0), 3), (set_strength(5, 2), 1), (set_strength(5, 1), 1), (set_strength(1, 3), 3),
    (set_threshold(1), 2), (set_threshold(2), 2), (add_seed(0, 1, 1), 3), (add_seed(1, 0, 2), 3),
    (remove_seed(0, 0), 1), (remove_seed(3, 1), 1),
)


# The calls 10 to 21, with positions that are empty, taken, filled by growing and not there.
REPORTS = (
    ROUNDS, GET_GRID, get_tile_type(0), get_tile_type(2), get_tile_type(3), STATUS, IS_UNIQUE, FIRST_ALTERNATIVE,
    ALTERNATIVES, TERMINAL_GRID, MAX_PREREQUISITES, INDEPENDENT,
    *[call(x, y) for call in (grid_without, prerequisites) for x, y in ((0, 0), (1, 0), (2, 1), (3, 0), (4, 2))],
)

# Tiles that were attached by grow lie between those that were attached by attach; some can follow, in several ways.
MANY_WAYS = (
    create(5, 3, 1),
    add_tile_type(0, 1, 0, 1),
    add_tile_type(0, 0, 0, 1),
    add_seed(1, 0, 0),
    add_seed(1, 2, 0),
    attach(2, 0, 1),
    GROW,
    UNDO,
    UNDO,
    UNDO,
    attach(2, 2, 0),
)

# What lays bare the state: each answer, and the tiles one by one as they are taken back.
LAID_BARE = (STATUS, GET_GRID, get_tile_type(0), get_tile_type(1), ROUNDS, ALTERNATIVES, FIRST_ALTERNATIVE,
             TERMINAL_GRID, MAX_PREREQUISITES, INDEPENDENT, UNDO, GET_GRID, UNDO, GET_GRID, GROW, GET_GRID, UNDO,
             GET_GRID, CLEAR, GET_GRID, remove_seed(1, 0), STATUS, GET_GRID)


def play(session, *calls):
    numbers = joined(calls)
    answered = []
    at = 0
    while at < len(numbers):
        end = given_end(numbers, at)
        answered += answer_call(session, numbers[at], numbers[given_begin(numbers, at):end])
        at = end
    return answered


def snapshot(session):
    """All of the state, as a text that later changes can't reach."""
    if session.instance is None:
        return "none"
    fields = dict(vars(session.instance))
    fields["seeds"] = sorted(fields["seeds"].items())
    return repr(sorted(fields.items()))


def session_after(*calls):
    session = Session()
    play(session, *calls)
    return session


class Errors(unittest.TestCase):

    def check_refused(self, start, call, code):
        session = session_after(*start)
        before = snapshot(session)
        self.assertEqual(play(session, call), [code], call)
        self.assertEqual(snapshot(session), before, call)

    def test_each_leaves_the_state(self):
        for call, code in REFUSED:
            self.check_refused(BUSY, call, code)

    def test_too_many_kinds(self):
        self.check_refused(FULL_OF_KINDS, add_tile_type(1, 2, 3, 4), -28)
        self.check_refused(FULL_OF_KINDS, add_tile_type(1, 2, 3, 10), -22)

    def test_nothing_to_undo(self):
        self.check_refused(ROW, UNDO, -6)

    def test_no_instance(self):
        for call in (GROW, ROUNDS, UNDO, CLEAR, add_seed(0, 0, 0), set_threshold(1)):
            self.check_refused((), call, -11)
            self.check_refused((create(0, 0, 0),), call, -11)

    def test_seen_from_outside(self):
        behind = (ROUNDS, UNDO, attach(2, 0, 2), CLEAR, GROW, remove_seed(0, 0), add_tile_type(0, 0, 0, 0),
                  set_threshold(1), *[set_strength(glue, 0) for glue in range(1, 10)], add_seed(3, 0, 0))
        expected = ask(*BUSY, *behind)
        self.assertEqual(expected[len(BUSY):],
                         [2, 1, 2, 2, 4, 1, 3, 2, 3, 2, 1, 1, 1, 1, 1, 1, 0, 2])
        for call, code in REFUSED:
            found = ask(*BUSY, call, *behind)
            self.assertEqual(found, expected[:len(BUSY)] + [code] + expected[len(BUSY):], call)


class AttachedTiles(unittest.TestCase):

    def test_gone_when_one_of_the_five_succeeds(self):
        for call, answer in DROPPING:
            self.assertEqual(ask(*BUSY, call, UNDO)[-2:], [answer, -6], call)
            self.assertEqual(ask(*BUSY, call, CLEAR)[-2:], [answer, 0], call)

    def test_there_when_one_of_the_five_fails(self):
        for call, code in REFUSED:
            self.assertEqual(ask(*BUSY, call, CLEAR)[-2:], [code, 2], call)
        self.assertEqual(ask(*FULL_OF_KINDS, add_tile_type(0, 0, 0, 0), CLEAR)[-2:], [-28, 2])

    def test_seeds_and_settings_stay(self):
        session = session_after(*BUSY)
        play(session, set_strength(5, 2))
        self.assertEqual(snapshot(session), snapshot(session_after(*BUSY[:-2], set_strength(5, 2))))


class Changes(unittest.TestCase):

    def test_each_changes_what_it_tells_and_nothing_else(self):
        for call, changed in (
            (add_tile_type(1, 2, 3, 4), {"kinds": [[0, 1, 0, 0], [0, 2, 0, 1], [0, 0, 0, 2], [1, 2, 3, 4]]}),
            (set_strength(9, 3), {"strengths": [0, 3, 2, 1, 1, 1, 1, 1, 1, 3]}),
            (set_threshold(4), {"threshold": 4}),
            (add_seed(2, 1, 1), {"seeds": {0: 0, 7: 2, 6: 1}}),
            (remove_seed(3, 1), {"seeds": {0: 0}}),
            (CLEAR, {}),
        ):
            session = session_after(*BUSY)
            expected = dict(vars(session.instance), attached=[], **changed)
            play(session, call)
            self.assertEqual(vars(session.instance), expected, call)

    def test_attached_tiles_keep_their_order(self):
        session = session_after(*BUSY)
        self.assertEqual(session.instance.attached, [(1, 1), (2, 2)])
        play(session, UNDO)
        self.assertEqual(session.instance.attached, [(1, 1)])
        play(session, UNDO, GROW)
        self.assertEqual(session.instance.attached, [(1, 1), (2, 2), (6, 1), (5, 0)])

    def test_grow_keeps_what_is_attached(self):
        session = session_after(create(3, 1, 1), add_tile_type(0, 1, 0, 1), add_seed(1, 0, 0), attach(2, 0, 0), GROW)
        self.assertEqual(session.instance.attached, [(2, 0), (0, 0)])

    def test_grow_goes_by_position_and_kind(self):
        session = session_after(create(3, 3, 1), add_tile_type(2, 2, 2, 2), add_tile_type(1, 1, 1, 1),
                                add_tile_type(1, 1, 1, 1), add_seed(1, 1, 1), GROW)
        self.assertEqual(session.instance.attached, [(number, 1) for number in (1, 0, 2, 3, 5, 6, 7, 8)])


    def test_reckoning_ahead_leaves_the_grid_it_starts_from(self):
        instance = session_after(*BUSY).instance
        grid = current_grid(instance)
        self.assertEqual(grid, [1, 2, 3, 0, 0, 0, 0, 3])
        self.assertEqual(growth_steps(instance, grid), [(6, 1), (5, 0)])
        self.assertEqual(count_rounds(instance, grid), 2)
        self.assertEqual(grid, [1, 2, 3, 0, 0, 0, 0, 3])


class Reports(unittest.TestCase):

    def test_change_nothing(self):
        for start in (BUSY, BUSY[:-1], BUSY[:-2], ROW, ROW + (GROW,), FULL_OF_KINDS[:-1], MANY_WAYS,
                      MANY_WAYS + (GROW,), (create(6, 6, 4),), (create(1, 1, 1),), ()):
            for call in REPORTS:
                session = session_after(*start)
                before = snapshot(session)
                play(session, call)
                self.assertEqual(snapshot(session), before, call)

    def test_the_start_has_tiles_of_attach_and_of_grow(self):
        session = session_after(*MANY_WAYS)
        self.assertEqual(session.instance.attached, [(2, 1), (0, 0), (10, 0), (12, 0)])
        self.assertEqual(told_behind(MANY_WAYS, GET_GRID, ALTERNATIVES, prerequisites(4, 2)), [
            [6, 1, 1, 2, 0, 0, 0, 0, 0, 0, 0, 1, 1, 1, 0, 0], [2, 13, 1, 14, 1], [1, 13]])

    def test_seen_from_outside(self):
        for start in (MANY_WAYS, MANY_WAYS[:-1], MANY_WAYS[:-3], MANY_WAYS[:5], BUSY):
            expected = told_behind(start, *LAID_BARE)
            for call in REPORTS:
                self.assertEqual(told_behind(start, call, *LAID_BARE)[1:], expected, (start, call))

    def test_all_together(self):
        expected = told_behind(MANY_WAYS, STATUS, GET_GRID, ALTERNATIVES, UNDO, GET_GRID, UNDO, GET_GRID)
        for reports in (REPORTS, REPORTS[::-1]):
            found = told_behind(MANY_WAYS, *reports, STATUS, GET_GRID, ALTERNATIVES, UNDO, GET_GRID, UNDO, GET_GRID)
            self.assertEqual(found[len(reports):], expected)

    def test_the_same_again(self):
        for start in (MANY_WAYS, MANY_WAYS[:5], BUSY, ROW):
            for call in REPORTS:
                found = told(*start, call, call, call)
                self.assertEqual([found[-3], found[-2]], [found[-1]] * 2, call)


if __name__ == "__main__":
    unittest.main()
