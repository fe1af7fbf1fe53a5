"""Writes calls as lists of numbers, and reads the answers call by call."""

from gluetilesdesk.board import answers

HUGE = 4294967295


def create(width, height, threshold):
    return [0, width, height, threshold]


def add_tile_type(*glues):
    return [1, len(glues), *glues]


def set_strength(glue, strength):
    return [2, glue, strength]


def set_threshold(threshold):
    return [3, threshold]


def add_seed(x, y, kind):
    return [4, x, y, kind]


def remove_seed(x, y):
    return [5, x, y]


def attach(x, y, kind):
    return [6, x, y, kind]


def get_tile_type(kind):
    return [12, kind]


def grid_without(x, y):
    return [18, x, y]


def prerequisites(x, y):
    return [19, x, y]


UNDO = [7]
CLEAR = [8]
GROW = [9]
ROUNDS = [10]
GET_GRID = [11]
STATUS = [13]
IS_UNIQUE = [14]
FIRST_ALTERNATIVE = [15]
ALTERNATIVES = [16]
TERMINAL_GRID = [17]
MAX_PREREQUISITES = [20]
INDEPENDENT = [21]

# Each call once, with numbers that are in its limits where it has limits of its own.
EVERY_CALL_BUT_CREATE = (
    [1, 4, 0, 1, 2, 3], [2, 1, 1], [3, 1], [4, 0, 0, 0], [5, 0, 0], [6, 0, 0, 0], [7], [8], [9], [10], [11],
    [12, 0], [13], [14], [15], [16], [17], [18, 0, 0], [19, 0, 0], [20], [21],
)


def joined(calls):
    return [number for call in calls for number in call]


def split_answers(written):
    """The numbers of each answer, without their count."""
    found = []
    at = 0
    while at < len(written):
        end = at + 1 + written[at]
        if end > len(written):
            raise AssertionError(f"an answer is cut off: {written}")
        found.append(written[at + 1:end])
        at = end
    return found


def told(*calls):
    """The answers, call by call: a list of numbers for each."""
    split = split_answers(answers(joined(calls)))
    if len(split) != len(calls):
        raise AssertionError(f"not one answer for each of {len(calls)} calls: {split}")
    return split


def told_behind(start, *calls):
    """The answers to the calls behind the start, without those to the start."""
    return told(*start, *calls)[len(start):]


def ask(*calls):
    """The answers to calls that each answer one number: these numbers."""
    split = told(*calls)
    if [len(numbers) for numbers in split] != [1] * len(calls):
        raise AssertionError(f"not one number for each of {len(calls)} calls: {split}")
    return [numbers[0] for numbers in split]


def last(*calls):
    return ask(*calls)[-1]


# A row of three: kind 0 is the seed, kind 1 binds to its east, kind 2 to the east of kind 1.
ROW = (
    create(3, 1, 1),
    add_tile_type(0, 1, 0, 0),
    add_tile_type(0, 2, 0, 1),
    add_tile_type(0, 0, 0, 2),
    add_seed(0, 0, 0),
)

SIDES = ((0, 1), (1, 0), (0, -1), (-1, 0))


class Refused(Exception):
    pass


class Model:
    """A second, plainer reckoning. Tiles lie by their (x, y); each call is asked through its number."""

    def __init__(self):
        self.size = None

    def call(self, number, given):
        """The numbers that are answered, as a list."""
        if number and self.size is None:
            return [-11]
        try:
            answer = getattr(self, f"call_{number}")(*given)
        except Refused as refused:
            answer = refused.args[0]
        return answer if isinstance(answer, list) else [answer]

    def need(self, holds, code):
        if not holds:
            raise Refused(code)

    def need_known(self, x, y, kind=None):
        self.need(x in range(self.size[0]) and y in range(self.size[1]), -2)
        self.need(kind is None or kind in range(len(self.kinds)), -2)

    def call_0(self, width, height, threshold):
        self.need(width in range(1, 7) and height in range(1, 7) and threshold in range(1, 5), -22)
        self.size, self.threshold = (width, height), threshold
        self.strength = dict.fromkeys(range(1, 10), 1)
        self.kinds, self.seeds, self.attached = [], {}, {}
        return 0

    def call_1(self, *glues):
        self.need(len(glues) == 4 and set(glues) <= set(range(10)), -22)
        self.need(len(self.kinds) < 12, -28)
        self.kinds.append(glues)
        self.attached = {}
        return len(self.kinds) - 1

    def call_2(self, glue, strength):
        self.need(glue in self.strength and strength in range(4), -22)
        previous, self.strength[glue] = self.strength[glue], strength
        self.attached = {}
        return previous

    def call_3(self, threshold):
        self.need(threshold in range(1, 5), -22)
        previous, self.threshold = self.threshold, threshold
        self.attached = {}
        return previous

    def call_4(self, x, y, kind):
        self.need_known(x, y, kind)
        self.need((x, y) not in self.seeds, -17)
        self.seeds[x, y] = kind
        self.attached = {}
        return len(self.seeds)

    def call_5(self, x, y):
        self.need_known(x, y)
        self.need((x, y) in self.seeds, -33)
        del self.seeds[x, y]
        self.attached = {}
        return len(self.seeds)

    def tiles(self):
        return {**self.seeds, **self.attached}

    def held(self, tiles, place, kind):
        total = 0
        for side, (right, up) in enumerate(SIDES):
            other = tiles.get((place[0] + right, place[1] + up))
            if other is not None and self.kinds[kind][side] == self.kinds[other][(side + 2) % 4]:
                total += self.strength.get(self.kinds[kind][side], 0)
        return total

    def places(self):
        return [(x, y) for y in range(self.size[1]) for x in range(self.size[0])]

    def number_of(self, place):
        return self.places().index(place)

    def attachable(self, tiles):
        """All pairs of a place and a kind that may be attached, in the order of growing."""
        return [(place, kind) for place in self.places() if place not in tiles for kind in range(len(self.kinds))
                if self.held(tiles, place, kind) >= self.threshold]

    def call_6(self, x, y, kind):
        self.need_known(x, y, kind)
        self.need((x, y) not in self.tiles(), -17)
        strength = self.held(self.tiles(), (x, y), kind)
        self.need(strength >= self.threshold, -14)
        self.attached[x, y] = kind
        return strength

    def call_7(self):
        self.need(self.attached, -6)
        self.attached.popitem()
        return len(self.attached)

    def call_8(self):
        removed = len(self.attached)
        self.attached = {}
        return removed

    def call_9(self):
        before = len(self.attached)
        while self.attachable(self.tiles()):
            place, kind = self.attachable(self.tiles())[0]
            self.attached[place] = kind
        return len(self.attached) - before

    def call_10(self):
        tiles = self.tiles()
        rounds = 0
        while self.attachable(tiles):
            # Backwards, so that the smallest kind of a place is the one that stays.
            tiles = {**tiles, **dict(reversed(self.attachable(tiles)))}
            rounds += 1
        return rounds

    def grown(self):
        tiles = self.tiles()
        while self.attachable(tiles):
            place, kind = self.attachable(tiles)[0]
            tiles[place] = kind
        return tiles

    def filled(self):
        grown = self.grown()
        return [place for place in self.places() if place in grown and place not in self.tiles()]

    def without(self, place, grown):
        """The tiles without this place; what is attached to them stands behind them, in order."""
        tiles = self.tiles()
        while True:
            fits = [other for other in self.places() if other not in (place, *tiles) and other in grown
                    and self.held(tiles, other, grown[other]) >= self.threshold]
            if not fits:
                return tiles
            tiles[fits[0]] = grown[fits[0]]

    def other_ways(self):
        """The alternatives, as pairs of a place and a kind."""
        grown = self.grown()
        return [(place, kind) for place in self.places() if place not in self.tiles()
                for other, kind in self.attachable(self.without(place, grown))
                if other == place and grown.get(place) != kind]

    def needs(self):
        """The prerequisites, as places, of each place that growing fills."""
        grown, filled = self.grown(), self.filled()
        parts = {place: self.without(place, grown) for place in filled}
        return {place: [other for other in filled if other != place and place not in parts[other]]
                for place in filled}

    def written(self, tiles):
        return [len(tiles)] + [tiles[place] + 1 if place in tiles else 0 for place in self.places()]

    def written_pairs(self, pairs):
        return [len(pairs)] + joined((self.number_of(place), kind) for place, kind in pairs)

    def written_places(self, places):
        return [len(places)] + [self.number_of(place) for place in places]

    def call_11(self):
        return self.written(self.tiles())

    def call_12(self, kind):
        self.need(kind in range(len(self.kinds)), -2)
        return [4, *self.kinds[kind]]

    def call_13(self):
        return [len(self.kinds), *self.size, self.threshold, len(self.seeds), len(self.attached),
                *self.strength.values()]

    def call_14(self):
        return 0 if self.other_ways() else 1

    def call_15(self):
        self.need(self.other_ways(), -33)
        place, kind = self.other_ways()[0]
        part = self.without(place, self.grown())
        return self.written_pairs(list(part.items())[len(self.tiles()):] + [(place, kind)])

    def call_16(self):
        return self.written_pairs(self.other_ways())

    def call_17(self):
        return self.written(self.grown())

    def call_18(self, x, y):
        self.need_known(x, y)
        self.need((x, y) not in self.tiles(), -17)
        return self.written(self.without((x, y), self.grown()))

    def call_19(self, x, y):
        self.need_known(x, y)
        self.need((x, y) not in self.tiles(), -17)
        self.need((x, y) in self.grown(), -33)
        return self.written_places(self.needs()[x, y])

    def call_20(self):
        return max([0, *[len(others) for others in self.needs().values()]])

    def call_21(self):
        return self.written_places([place for place, others in self.needs().items() if not others])
