"""The document's points 1 to 5 on small grids, against a search through all assemblies.

A grid is a frozen set of pairs here: the number of a position and the kind that lies there.
"""

import itertools
import random
import unittest

from helper import (ALTERNATIVES, FIRST_ALTERNATIVE, GET_GRID, GROW, INDEPENDENT, IS_UNIQUE, MAX_PREREQUISITES,
                    TERMINAL_GRID, Model, add_seed, add_tile_type, attach, create, grid_without, prerequisites,
                    set_strength, told_behind)


def pairs_of(numbers):
    return list(zip(numbers[::2], numbers[1::2]))


def grid_of(answer):
    """The grid that was answered; its count is looked at on the way."""
    grid = frozenset((position, tile - 1) for position, tile in enumerate(answer[1:]) if tile > 0)
    if len(grid) != answer[0]:
        raise AssertionError(f"not the number of tiles: {answer}")
    return grid


def positions_of(grid):
    return {position for position, kind in grid}


class Search:
    """All assemblies of the grid behind these calls, each with what is attachable to it."""

    def __init__(self, start):
        model = Model()
        for call in start:
            model.call(call[0], call[2:] if call[0] == 1 else call[1:])
        self.size = model.size[0] * model.size[1]
        self.current = self.numbered(model, model.tiles().items())
        self.follow = {}
        waiting = [self.current]
        while waiting:
            grid = waiting.pop()
            if grid not in self.follow:
                tiles = {model.places()[position]: kind for position, kind in grid}
                self.follow[grid] = self.numbered(model, model.attachable(tiles))
                waiting += [grid | {pair} for pair in self.follow[grid]]

    def numbered(self, model, pairs):
        return frozenset((model.number_of(place), kind) for place, kind in pairs)


class Points(unittest.TestCase):

    def check(self, start):
        """Returns whether the assembly is unique and how many prerequisites there are at the most."""
        width = start[0][1]
        search = Search(start)
        everywhere = [(position % width, position // width) for position in range(search.size)]
        told = told_behind(start, GET_GRID, TERMINAL_GRID, IS_UNIQUE, ALTERNATIVES, FIRST_ALTERNATIVE,
                           MAX_PREREQUISITES, INDEPENDENT, *[grid_without(*place) for place in everywhere],
                           *[prerequisites(*place) for place in everywhere])
        self.assertEqual(grid_of(told[0]), search.current, start)
        grown = grid_of(told[1])
        withouts, needs = told[7:7 + search.size], told[7 + search.size:]
        self.assertIn(grown, search.follow)
        self.check_uniqueness(search, grown, told[2], start)
        inner = [grid for grid in search.follow if grid <= grown]
        self.check_largest_parts(search, inner, withouts, start)
        self.check_alternatives(search, grown, inner, withouts, told[3], start)
        self.check_first(search, withouts, told[3], told[4], start)
        self.check_prerequisites(search, grown, inner, needs, start)
        self.check_counts(needs, told[5], told[6], start)
        return told[2] == [1], told[5][0]

    def check_uniqueness(self, search, grown, told, start):
        terminal = [grid for grid, attachable in search.follow.items() if not attachable]
        self.assertIn(grown, terminal, start)
        self.assertEqual(told, [1 if terminal == [grown] else 0], start)
        if told == [1]:
            for grid in search.follow:
                self.assertLessEqual(grid, grown, start)

    def check_largest_parts(self, search, inner, withouts, start):
        for position, told in enumerate(withouts):
            if position in positions_of(search.current):
                self.assertEqual(told, [-17], start)
            else:
                parts = [grid for grid in inner if position not in positions_of(grid)]
                self.assertIn(grid_of(told), parts, start)
                self.assertEqual(grid_of(told), frozenset().union(*parts), start)

    def check_alternatives(self, search, grown, inner, withouts, told, start):
        expected = sorted({pair for grid in inner for pair in search.follow[grid]} - grown)
        self.assertEqual(told[0], len(expected), start)
        self.assertEqual(pairs_of(told[1:]), expected, start)
        for pair in expected:
            self.assertIn(pair, search.follow[grid_of(withouts[pair[0]])], start)

    def check_first(self, search, withouts, alternatives, told, start):
        if alternatives == [0]:
            self.assertEqual(told, [-33], start)
            return
        way = pairs_of(told[1:])
        self.assertEqual(told[0], len(way), start)
        self.assertEqual(list(way[-1]), alternatives[1:3], start)
        part = grid_of(withouts[way[-1][0]])
        grid = search.current
        for pair in way[:-1]:
            self.assertEqual(pair, min(search.follow[grid] & part), start)
            grid |= {pair}
        self.assertEqual(grid, part, start)
        self.assertIn(way[-1], search.follow[grid], start)

    def check_prerequisites(self, search, grown, inner, needs, start):
        there, filled = positions_of(search.current), positions_of(grown) - positions_of(search.current)
        for position, told in enumerate(needs):
            if position in there:
                self.assertEqual(told, [-17], start)
            elif position not in filled:
                self.assertEqual(told, [-33], start)
            else:
                always = filled - {position}
                for grid in inner:
                    if position in positions_of(grid):
                        always &= positions_of(grid)
                self.assertEqual(told, [len(always)] + sorted(always), start)

    def check_counts(self, needs, told_most, told_independent, start):
        counts = {position: told[0] for position, told in enumerate(needs) if told[0] >= 0}
        self.assertEqual(told_most, [max([0, *counts.values()])], start)
        free = [position for position, count in counts.items() if count == 0]
        self.assertEqual(told_independent, [len(free)] + free, start)

    def test_every_three_kinds_in_a_row(self):
        glues = [(0, east, 0, west) for east in range(3) for west in range(3)]
        unique = set()
        for kinds in itertools.product(glues, repeat=3):
            for x in (0, 1):
                found = self.check([create(3, 1, 1), *[add_tile_type(*kind) for kind in kinds], add_seed(x, 0, 0)])
                unique.add(found[0])
        self.assertEqual(unique, {True, False})

    def chosen_start(self, seed):
        chance = random.Random(seed)
        width, height = chance.choice(((1, 1), (6, 1), (1, 6), (2, 2), (3, 2), (2, 3), (3, 2), (2, 3), (5, 1)))
        most_glue = chance.choice((1, 2, 3, 4))
        kinds = chance.randint(1, 3)
        start = [create(width, height, chance.choice((1, 1, 1, 2, 2, 3, 4)))]
        start += [add_tile_type(*[chance.randint(0, most_glue) for side in range(4)]) for kind in range(kinds)]
        start += [set_strength(chance.randint(1, most_glue), chance.randint(0, 3)) for glue in range(2)]

        def place():
            return chance.randrange(width), chance.randrange(height), chance.randrange(kinds)

        start += [add_seed(*place()) for number in range(chance.randint(0, 3))]
        start += [attach(*place()) for number in range(chance.randint(0, 4))]
        return start + [GROW] if chance.random() < 0.1 else start

    def test_small_grids(self):
        found = [self.check(self.chosen_start(seed)) for seed in range(2500)]
        # The chances are worth something only if all of this is met.
        self.assertGreater(found.count((True, 0)), 100)
        self.assertGreater(len([most for unique, most in found if unique and most > 1]), 20)
        self.assertGreater(len([most for unique, most in found if not unique and most > 0]), 20)

    def test_grids_of_which_the_answer_is_known(self):
        self.assertEqual(self.check([create(1, 1, 1)]), (True, 0))
        self.assertEqual(self.check([create(3, 3, 1)] + [add_tile_type(1, 1, 1, 1)] * 12), (True, 0))
        line = [create(6, 1, 1), add_tile_type(0, 1, 0, 1), add_tile_type(0, 0, 0, 1), add_seed(0, 0, 0)]
        self.assertEqual(self.check(line), (False, 4))
        self.assertEqual(self.check(line[:2] + line[3:]), (True, 4))


if __name__ == "__main__":
    unittest.main()
