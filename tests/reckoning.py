"""What the tests share: plain reckonings cell by cell, sample values, and checks of calls."""

import copy
from itertools import product

from cellflows import errors

ROAD = (2, -1, 3, [0, 0, 0, 1, 1, 1, 0, 1])
SHIFT = (2, 1, 1, [0, 1])
SPREAD = (2, 0, 2, [0, 1, 1, 1])
ONES = (2, 1, [0, 1])
RISES = (2, 2, [0, 1, 0, 0])

LONGEST = {2: 10, 3: 6, 4: 5}

# The greatest spans with at most 16 words of one sign less.
LONGEST_BOUND = {2: 5, 3: 3, 4: 3}

GREAT = 10 ** 40 - 1

NOT_INTEGERS = (None, True, False, "1", "", b"1", [], [1], (), (1,), {}, {1: 1}, set(), object(), int)

NOT_SIGNS = NOT_INTEGERS + (0, 1, 5, -2, 10 ** 39)

NOT_INDICES = NOT_INTEGERS + (-1, -2, -10 ** 39)

ODD_VALUES = (
    None, True, False, 0, 1, 2, -1, 10 ** 40, "", "0", "2 0 01", b"01", (), {}, {0: 1}, set(), frozenset([1]),
    object(), int, ((), []), (2,), [None], [[]], [[[[]]]], (2, (2, (2, ()))),
)

NOT_RULES = ODD_VALUES + (
    [2, 0, 1, [0, 1]], (2, 0, 1), (2, 0, 1, [0, 1], 0), (2, 0, 1, (0, 1)), (2, 0, 1, "01"), (2, 0, 1, b"\x00\x01"),
    (1, 0, 1, [0]), (5, 0, 1, [0, 1, 2, 3, 4]), (0, 0, 1, []), (True, 0, 1, [0, 1]), ("2", 0, 1, [0, 1]),
    (2, None, 1, [0, 1]), (2, False, 1, [0, 1]), (2, "0", 1, [0, 1]), (2, [0], 1, [0, 1]),
    (2, 0, True, [0, 1]), (2, 0, "1", [0, 1]), (2, 0, None, [0, 1]), (2, 0, [1], [0, 1]),
    (2, 0, 0, [0]), (2, 0, -1, [0, 1]), (2, 0, 0, []),
    (2, 0, 1, []), (2, 0, 1, [0]), (2, 0, 1, [0, 1, 0]), (2, 0, 2, [0, 1, 0]), (2, 0, 2, [0, 1]),
    (2, 0, 1, [0, 2]), (2, 0, 1, [-1, 0]), (3, 0, 1, [0, 1, 3]), (4, 0, 1, [0, 1, 2, 4]),
    (2, 0, 1, [False, True]), (2, 0, 1, [0, True]), (2, 0, 1, [0, None]), (2, 0, 1, [0, "1"]), (2, 0, 1, [0, [1]]),
    (2, -101, 1, [0, 1]), (2, 101, 1, [0, 1]), (2, 100, 2, [0, 1, 1, 1]), (2, 10 ** 39, 1, [0, 1]),
    (2, -10 ** 39, 1, [0, 1]), (2, 0, 10 ** 39, [0, 1]), (2, 0, 11, [0] * 2048), (3, 0, 7, [0] * 2187),
    (4, 0, 6, [0] * 4096), (2, -100, 10 ** 40, [0] * 1024), (2, -10 ** 39, 10 ** 39, [0, 1]),
)

NOT_RINGS = ODD_VALUES + (
    [], (0, 1), "01", b"\x00", {0: 1}, [2], [0, 1, 2], [-1], [True], [False, 0], [0, None], [0, "1"], [[0]], [(0,)],
    [0] * 513, [10 ** 39], range(2), ([0],),
)

NOT_WEIGHTS = ODD_VALUES + (
    [2, 1, [0, 1]], (2, 1), (2, 1, [0, 1], 0), (2, 1, (0, 1)), (2, 1, "01"), (2, 1, {0: 0, 1: 1}),
    (1, 1, [0]), (5, 1, [0] * 5), (0, 1, []), (-2, 1, [0, 1]), (True, 1, [0, 1]), ("2", 1, [0, 1]), (None, 1, [0, 1]),
    (2, 0, [0]), (2, 0, []), (2, -1, [0, 1]), (2, True, [0, 1]), (2, "1", [0, 1]), (2, None, [0, 1]), (2, [1], [0, 1]),
    (2, 1, []), (2, 1, [0]), (2, 1, [0, 1, 2]), (2, 2, [0, 1]), (2, 2, [0, 1, 0]), (3, 1, [0, 1]),
    (2, 1, [0, True]), (2, 1, [False, 0]), (2, 1, [0, None]), (2, 1, [0, "1"]), (2, 1, [0, [1]]), (2, 1, [(0,), 1]),
    (2, 11, [0] * 2048), (3, 7, [0] * 2187), (4, 6, [0] * 4096), (2, 10 ** 39, [0, 1]), (2, 10 ** 39, [0] * 1024),
)


NOT_RUNS = ODD_VALUES + (
    [], (0, 1), ((0, 1),), [0, 1], [[0, 1]], [(0,)], [(0, 1, 1)], [()], ["01"], [(2, 1)], [(-1, 1)], [(0, 0)], [(0, -1)],
    [(0, -10 ** 39)], [(True, 1)], [(False, 1)], [(0, True)], [(None, 1)], [(0, None)], [("0", 1)], [(0, "1")],
    [([0], 1)], [(0, [1])], [(0, (1,))], [(0, 1), None], [(0, 1), (1, 0)], [(0, 1), (1, 1), (5, 1)], [(0, 1), [1, 1]],
    {0: 1}, {(0, 1): (0, 1)}, "[(0, 1)]",
)

NOT_TOTALS = ODD_VALUES + (
    [], [0] * 5, (1,), (1, 2), "12", {0: 1}, [True], [1, False], [None], [1, "1"], [[1]], [1, (2,)], range(2),
)

NOT_PAIRS = ODD_VALUES + (
    [], [(ONES, 1)] * 5, ((ONES, 1),), (ONES, 1), [ONES], [1], [(ONES,)], [(ONES, 1, 1)], [[ONES, 1]], [(1, ONES)],
    [(ONES, True)], [(ONES, None)], [(ONES, "1")], [(ONES, [1])], [(ONES, (1,))], [((2, 1, [0, True]), 1)],
    [(None, 1)], [([2, 1, [0, 1]], 1)], [((2, 1, (0, 1)), 1)], [((2, 0, [0]), 1)], [((5, 1, [0] * 5), 1)],
    [((2, 11, [0] * 2048), 1)], [(ONES, 1), None], [(ONES, 1), (ONES, None)], [(ONES, 1), (RISES, 1), ((2, 1, []), 1)],
    [(ONES, 1), ((3, 1, [0, 1, 2]), 1)], [((4, 1, [0] * 4), 1), ((4, 1, [0] * 4), 1), ((3, 1, [0] * 3), 1)],
    {0: (ONES, 1)}, "[((2, 1, [0, 1]), 1)]",
)


class Numbers:
    """A row of numbers that look as if drawn by lot, and are the same in each run."""

    def __init__(self, seed):
        self.state = seed

    def draw(self):
        self.state = (self.state * 6364136223846793005 + 1442695040888963407) % 2 ** 64
        return self.state >> 33

    def below(self, many):
        drawn, room = self.draw(), 2 ** 31
        while room < many:
            drawn, room = drawn * 2 ** 31 + self.draw(), room * 2 ** 31
        return drawn % many

    def signs(self, signs, many):
        return [self.below(signs) for _ in range(many)]


def words(signs, length):
    return [list(word) for word in product(range(signs), repeat=length)]


def word_number(signs, word):
    return int("0" + "".join(str(sign) for sign in word), signs)


def word_round(ring, start, length):
    return [ring[(start + place) % len(ring)] for place in range(length)]


def plain_tick(rule, ring):
    signs, first, width, table = rule
    return [
        table[word_number(signs, word_round(ring, cell + first, width))] for cell in range(len(ring))
    ]


def plain_ticks(rule, ring, ticks):
    for _ in range(ticks):
        ring = plain_tick(rule, ring)
    return ring


def plain_sum(weight, ring):
    signs, span, values = weight
    return sum(values[word_number(signs, word_round(ring, cell, span))] for cell in range(len(ring)))


def flow_parts(weight, bottom, flow):
    """For each word the left side of the inequality of a flow."""
    signs, span, values = weight
    return [
        bottom * value - flow[word_number(signs, word[:-1])] + flow[word_number(signs, word[1:])]
        for word, value in zip(words(signs, span), values)
    ]


def negative(weight):
    return (weight[0], weight[1], [-value for value in weight[2]])


def some_rules(seed, many, reach=3):
    """Rules of all numbers of signs and of several widths."""
    numbers = Numbers(seed)
    found = []
    for at in range(many):
        signs = 2 + at % 3
        width = 1 + numbers.below(4 if signs == 2 else 3)
        first = numbers.below(2 * reach + 1) - reach
        found.append((signs, first, width, numbers.signs(signs, signs ** width)))
    return found


def some_weights(seed, many, reach=5):
    """Weights of all numbers of signs and of several spans."""
    numbers = Numbers(seed)
    found = []
    for at in range(many):
        signs = 2 + at % 3
        span = 1 + numbers.below(4 if signs == 2 else 3)
        values = [numbers.below(2 * reach + 1) - reach for _ in range(signs ** span)]
        found.append((signs, span, values))
    return found


def rings_up_to(signs, cells):
    return [ring for many in range(1, cells + 1) for ring in words(signs, many)]


def identity(signs, first):
    return (signs, first, 1, list(range(signs)))


def packed_road(signs, first=-1):
    """Each cell lets as many marks go to the right as there is room for."""
    most = signs - 1
    table = [
        cell - min(cell, most - right) + min(left, most - cell) for left, cell, right in words(signs, 3)
    ]
    return (signs, first, 3, table)


def fulls(seed, reach):
    """A weight with as many words as can be for each number of signs."""
    numbers = Numbers(seed)
    return [
        (signs, span, [numbers.below(2 * reach + 1) - reach for _ in range(signs ** span)])
        for signs, span in LONGEST.items()
    ]


def largest(seed, reach):
    """For each number of signs a weight with as many words as the functions of sizes and counts take."""
    numbers = Numbers(seed)
    return [
        (signs, span, [numbers.below(2 * reach + 1) - reach for _ in range(signs ** span)])
        for signs, span in LONGEST_BOUND.items()
    ]


def of_at_most_sixteen(weights):
    return [weight for weight in weights if weight[1] <= LONGEST_BOUND[weight[0]]]


def lists_in(value):
    """All lists in a value, each time that it stands there."""
    found = [value] if type(value) is list else []
    if type(value) in (list, tuple):
        for item in value:
            found += lists_in(item)
    return found


def check_fresh(case, call, *args):
    """The call changes no argument, gives an equal result again, and only new lists; the result."""
    kept = copy.deepcopy(args)
    result = call(*args)
    again = call(*args)
    case.assertEqual(args, kept)
    case.assertEqual(result, again)
    own = [id(one) for one in lists_in(result) + lists_in(again)]
    case.assertEqual(len(own), len(set(own)))
    case.assertFalse(set(own) & {id(one) for one in lists_in(args)})
    return result


def check_raises(case, error, call, *args):
    """The call raises an error of exactly this class and changes no argument; the error."""
    # Deep copies of odd values are not equal to them, so only what can be compared is.
    kept = repr(args)
    with case.assertRaises(errors.FlowError) as caught:
        call(*args)
    case.assertIs(type(caught.exception), error)
    case.assertEqual(repr(args), kept)
    return caught.exception
