"""The session of the document's examples, call by call."""

import unittest

from gluetilesdesk.board import answers
from helper import (FIRST_ALTERNATIVE, INDEPENDENT, IS_UNIQUE, MAX_PREREQUISITES, TERMINAL_GRID, add_seed,
                    add_tile_type, create, grid_without, joined, prerequisites, told)

EXAMPLES = (
    (create(3, 1, 1), [0]),
    (add_tile_type(0, 1, 0, 0), [0]),
    (add_tile_type(0, 2, 0, 1), [1]),
    (add_tile_type(0, 0, 0, 2), [2]),
    (add_seed(0, 0, 0), [1]),
    (IS_UNIQUE, [1]),
    (TERMINAL_GRID, [3, 1, 2, 3]),
    (grid_without(1, 0), [1, 1, 0, 0]),
    (prerequisites(2, 0), [1, 1]),
    (MAX_PREREQUISITES, [1]),
    (INDEPENDENT, [1, 1]),
    (FIRST_ALTERNATIVE, [-33]),
    (add_tile_type(0, 0, 0, 1), [3]),
    (IS_UNIQUE, [0]),
    (FIRST_ALTERNATIVE, [1, 1, 3]),
    (prerequisites(0, 0), [-17]),
)


class Examples(unittest.TestCase):

    def test_each_call(self):
        for length in range(len(EXAMPLES) + 1):
            calls = [call for call, answer in EXAMPLES[:length]]
            self.assertEqual(told(*calls), [answer for call, answer in EXAMPLES[:length]], length)

    def test_number_by_number(self):
        self.assertEqual(answers([
            0, 3, 1, 1, 1, 4, 0, 1, 0, 0, 1, 4, 0, 2, 0, 1, 1, 4, 0, 0, 0, 2, 4, 0, 0, 0, 14, 17, 18, 1, 0, 19, 2, 0,
            20, 21, 15, 1, 4, 0, 0, 0, 1, 14, 15, 19, 0, 0]), [
            1, 0, 1, 0, 1, 1, 1, 2, 1, 1, 1, 1, 4, 3, 1, 2, 3, 4, 1, 1, 0, 0, 2, 1, 1, 1, 1, 2, 1, 1, 1, -33, 1, 3,
            1, 0, 3, 1, 1, 3, 1, -17])
        self.assertEqual(answers(joined([call for call, answer in EXAMPLES])),
                         joined([[len(answer)] + answer for call, answer in EXAMPLES]))


if __name__ == "__main__":
    unittest.main()
