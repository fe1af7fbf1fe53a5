"""Many lists of calls, answered by the program and by a second, plainer reckoning of the same words."""

import random
import unittest

from gluetilesdesk.board import answers
from helper import HUGE, joined

SIDES = ((0, 1), (1, 0), (0, -1), (-1, 0))


class Refused(Exception):
    pass


class Model:
    """Tiles by their (x, y); each call is asked through its number."""

    def __init__(self):
        self.size = None

    def call(self, number, given):
        if number and self.size is None:
            return -11
        try:
            return getattr(self, f"call_{number}")(*given)
        except Refused as refused:
            return refused.args[0]

    def need(self, holds, code):
        if not holds:
            raise Refused(code)

    def need_known(self, x, y, kind=None):
        self.need(x in range(self.size[0]) and y in range(self.size[1]), -2)
        self.need(kind is None or kind in range(len(self.kinds)), -2)

    def call_0(self, width, height, threshold):
        self.need(width in range(1, 7) and height in range(1, 7) and threshold in range(1, 5), -22)
        self.size, self.threshold = (width, height), threshold
        self.strength = dict.fromkeys(range(1, 10), 1)
        self.kinds, self.seeds, self.attached = [], {}, {}
        return 0

    def call_1(self, *glues):
        self.need(len(glues) == 4 and set(glues) <= set(range(10)), -22)
        self.need(len(self.kinds) < 12, -28)
        self.kinds.append(glues)
        self.attached = {}
        return len(self.kinds) - 1

    def call_2(self, glue, strength):
        self.need(glue in self.strength and strength in range(4), -22)
        previous, self.strength[glue] = self.strength[glue], strength
        self.attached = {}
        return previous

    def call_3(self, threshold):
        self.need(threshold in range(1, 5), -22)
        previous, self.threshold = self.threshold, threshold
        self.attached = {}
        return previous

    def call_4(self, x, y, kind):
        self.need_known(x, y, kind)
        self.need((x, y) not in self.seeds, -17)
        self.seeds[x, y] = kind
        self.attached = {}
        return len(self.seeds)

    def call_5(self, x, y):
        self.need_known(x, y)
        self.need((x, y) in self.seeds, -33)
        del self.seeds[x, y]
        self.attached = {}
        return len(self.seeds)

    def tiles(self):
        return {**self.seeds, **self.attached}

    def held(self, tiles, place, kind):
        total = 0
        for side, (right, up) in enumerate(SIDES):
            other = tiles.get((place[0] + right, place[1] + up))
            if other is not None and self.kinds[kind][side] == self.kinds[other][(side + 2) % 4]:
                total += self.strength.get(self.kinds[kind][side], 0)
        return total

    def attachable(self, tiles):
        """All pairs of a place and a kind that may be attached, in the order of growing."""
        places = [(x, y) for y in range(self.size[1]) for x in range(self.size[0])]
        return [(place, kind) for place in places if place not in tiles for kind in range(len(self.kinds))
                if self.held(tiles, place, kind) >= self.threshold]

    def call_6(self, x, y, kind):
        self.need_known(x, y, kind)
        self.need((x, y) not in self.tiles(), -17)
        strength = self.held(self.tiles(), (x, y), kind)
        self.need(strength >= self.threshold, -14)
        self.attached[x, y] = kind
        return strength

    def call_7(self):
        self.need(self.attached, -6)
        self.attached.popitem()
        return len(self.attached)

    def call_8(self):
        removed = len(self.attached)
        self.attached = {}
        return removed

    def call_9(self):
        before = len(self.attached)
        while self.attachable(self.tiles()):
            place, kind = self.attachable(self.tiles())[0]
            self.attached[place] = kind
        return len(self.attached) - before

    def call_10(self):
        tiles = self.tiles()
        rounds = 0
        while self.attachable(tiles):
            # Backwards, so that the smallest kind of a place is the one that stays.
            tiles = {**tiles, **dict(reversed(self.attachable(tiles)))}
            rounds += 1
        return rounds


class Chooser:
    """Calls by a fixed row of chances, so that each run is the same."""

    def __init__(self, seed):
        self.chance = random.Random(seed)

    def number(self, low, high):
        """Mostly in these limits."""
        if self.chance.random() < 0.03:
            return self.chance.choice((0, high + 1, high + 2, HUGE))
        return self.chance.randint(low, high)

    def glues(self, most_glue):
        length = 4 if self.chance.random() < 0.95 else self.chance.choice((0, 1, 3, 5, 6, 255))
        return [self.number(0, most_glue) for _ in range(length)]

    def given(self, number, width, height, most_glue):
        place = [self.number(0, width - 1), self.number(0, height - 1)]
        if number == 0:
            return [self.number(1, 6), self.number(1, 6), self.number(1, 4)]
        if number == 1:
            return self.glues(most_glue)
        if number == 2:
            return [self.number(1, most_glue), self.number(0, 3)]
        if number == 3:
            return [self.number(1, 3)]
        if number in (4, 6):
            return place + [self.number(0, 4)]
        return place if number == 5 else []

    def session(self):
        """A beginning that lets something grow, then calls of all sorts."""
        width, height = self.chance.randint(1, 6), self.chance.randint(1, 6)
        most_glue = self.chance.choice((1, 2, 2, 3, 9))
        calls = [(0, [width, height, self.chance.choice((1, 1, 1, 2, 2, 3, 4))])]
        if self.chance.random() < 0.1:
            calls = []
        kinds = self.chance.choice((1, 2, 3, 4, 5, 6, 13))
        numbers = [1] * kinds + [2] * self.chance.randint(0, 2) + [4] * self.chance.randint(1, 3)
        while len(calls) + len(numbers) < 40:
            numbers += self.chance.choices(range(11), (1, 4, 2, 2, 4, 3, 30, 12, 3, 12, 12))
        return calls + [(number, self.given(number, width, height, most_glue)) for number in numbers]


class AgainstTheModel(unittest.TestCase):

    def test_many_sessions(self):
        seen = set()
        for seed in range(1500):
            calls = Chooser(seed).session()
            model = Model()
            expected = [model.call(number, given) for number, given in calls]
            seen |= {(number, min(answer, 0)) for (number, given), answer in zip(calls, expected)}
            written = joined([[number, len(given)] + given if number == 1 else [number] + given
                              for number, given in calls])
            self.assertEqual(answers(written), joined([[1, answer] for answer in expected]), (seed, calls))
        # The chances are worth something only if each call is answered in each way.
        wanted = {0: (0, -22), 1: (0, -11, -22, -28), 2: (0, -11, -22), 3: (0, -11, -22), 4: (0, -11, -2, -17),
                  5: (0, -11, -2, -33), 6: (0, -11, -2, -17, -14), 7: (0, -11, -6), 8: (0, -11), 9: (0, -11),
                  10: (0, -11)}
        self.assertEqual({(number, code) for number in wanted for code in wanted[number]} - seen, set())


if __name__ == "__main__":
    unittest.main()
