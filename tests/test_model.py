"""Many lists of calls, answered by the program and by a second, plainer reckoning of the same words."""

import random
import unittest

from gluetilesdesk.board import answers
from helper import HUGE, Model, joined, split_answers

# How each call may be answered: 0 for a success, else the code.
WAYS = {0: (0, -22), 1: (0, -11, -22, -28), 2: (0, -11, -22), 3: (0, -11, -22), 4: (0, -11, -2, -17),
        5: (0, -11, -2, -33), 6: (0, -11, -2, -17, -14), 7: (0, -11, -6), 8: (0, -11), 9: (0, -11), 10: (0, -11),
        11: (0, -11), 12: (0, -11, -2), 13: (0, -11), 14: (0, -11), 15: (0, -11, -33), 16: (0, -11), 17: (0, -11),
        18: (0, -11, -2, -17), 19: (0, -11, -2, -17, -33), 20: (0, -11), 21: (0, -11)}

CHANGING = dict(zip(range(11), (1, 4, 2, 2, 4, 3, 30, 12, 3, 12, 12)))
REPORTING = dict(zip(range(11, 22), (6, 5, 5, 6, 8, 8, 5, 10, 14, 6, 6)))
MIXED = {**dict(zip(range(11), (1, 3, 2, 1, 3, 2, 24, 5, 2, 3, 4))), **REPORTING}
# Few of the calls that make another grid or take tiles away, so that there is much to report.
SETTLED = {**dict(zip(range(11), (0.1, 0.5, 0.5, 0.3, 1, 0.5, 20, 4, 0.5, 0.5, 2))), **REPORTING}


class Chooser:
    """Calls by a fixed row of chances, so that each run is the same."""

    def __init__(self, seed):
        self.chance = random.Random(seed)

    def number(self, low, high):
        """Mostly in these limits."""
        if self.chance.random() < 0.03:
            return self.chance.choice((0, high + 1, high + 2, HUGE))
        return self.chance.randint(low, high)

    def glues(self, most_glue):
        length = 4 if self.chance.random() < 0.95 else self.chance.choice((0, 1, 3, 5, 6, 255))
        return [self.number(0, most_glue) for _ in range(length)]

    def given(self, number, width, height, most_glue):
        place = [self.number(0, width - 1), self.number(0, height - 1)]
        if number == 0:
            return [self.number(1, 6), self.number(1, 6), self.number(1, 4)]
        if number == 1:
            return self.glues(most_glue)
        if number == 2:
            return [self.number(1, most_glue), self.number(0, 3)]
        if number == 3:
            return [self.number(1, 3)]
        if number in (4, 6):
            return place + [self.number(0, 4)]
        if number == 12:
            return [self.number(0, 4)]
        return place if number in (5, 18, 19) else []

    def session(self, weights, each_once=()):
        """A beginning that lets something grow, then calls of all sorts up to 40."""
        width, height = self.chance.randint(1, 6), self.chance.randint(1, 6)
        most_glue = self.chance.choice((1, 2, 2, 3, 9))
        begin = [(0, [width, height, self.chance.choice((1, 1, 1, 2, 2, 3, 4))])]
        if self.chance.random() < 0.1:
            begin = []
        kinds = self.chance.choice((1, 2, 3, 4, 5, 6, 13))
        numbers = [1] * kinds + [2] * self.chance.randint(0, 2) + [4] * self.chance.randint(1, 3)
        mixed = [number for number in each_once if number not in numbers + [0] * len(begin)]
        while len(begin) + len(numbers) + len(mixed) < 40:
            mixed += self.chance.choices(list(weights), list(weights.values()))
        if each_once:
            self.chance.shuffle(mixed)
        return begin + [(number, self.given(number, width, height, most_glue)) for number in numbers + mixed]


    def settled_session(self):
        """A grid on which much can be attached, then mostly reports of it."""
        width, height, kinds = self.chance.randint(1, 6), self.chance.randint(1, 6), self.chance.randint(2, 6)
        most_glue = self.chance.choice((2, 3, 4, 5))
        calls = [(0, [width, height, self.chance.choice((1, 1, 1, 2, 2, 3))])]
        calls += [(1, [self.chance.randint(0, most_glue) for _ in range(4)]) for _ in range(kinds)]
        calls += [(2, [glue, self.chance.randint(1, 3)]) for glue in range(1, self.chance.randint(1, most_glue))]
        for _ in range(self.chance.randint(1, 4)):
            calls.append((4, [self.chance.randrange(width), self.chance.randrange(height),
                              self.chance.randrange(kinds)]))
        numbers = self.chance.choices(list(SETTLED), list(SETTLED.values()), k=40 - len(calls))
        return calls + [(number, self.given(number, width, height, most_glue)) for number in numbers]


def written(calls):
    return joined([[number, len(given)] + given if number == 1 else [number] + given for number, given in calls])


class AgainstTheModel(unittest.TestCase):

    def check_session(self, calls, seed):
        """What was asked and how it was answered: the calls' numbers, each with 0 or a code."""
        self.assertEqual(len(calls), 40)
        model = Model()
        expected = [model.call(number, given) for number, given in calls]
        self.assertEqual(split_answers(answers(written(calls))), expected, (seed, calls))
        return {(number, min(answer[0], 0)) for (number, given), answer in zip(calls, expected)}

    def check_all_ways(self, seen, numbers):
        # The chances are worth something only if each call is answered in each way.
        self.assertEqual({(number, code) for number in numbers for code in WAYS[number]} - seen, set())

    def test_calls_that_change(self):
        seen = set()
        for seed in range(1500):
            seen |= self.check_session(Chooser(seed).session(CHANGING), seed)
        self.check_all_ways(seen, range(11))

    def test_calls_of_all_sorts(self):
        seen = set()
        for seed in range(400):
            seen |= self.check_session(Chooser(seed).session(MIXED), seed)
        self.check_all_ways(seen, range(22))

    def test_reports_on_settled_grids(self):
        seen = set()
        for seed in range(600):
            seen |= self.check_session(Chooser(seed).settled_session(), seed)
        # These lists all begin with create.
        self.check_all_ways(seen | {(number, -11) for number in WAYS}, range(11, 22))

    def test_all_22_calls_in_each_list(self):
        seen = set()
        for seed in range(400):
            calls = Chooser(seed).session(MIXED, range(22))
            self.assertEqual({number for number, given in calls}, set(range(22)))
            seen |= self.check_session(calls, seed)
        self.check_all_ways(seen, range(22))


if __name__ == "__main__":
    unittest.main()
