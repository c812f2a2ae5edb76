import unittest
from fractions import Fraction
from itertools import product
from math import gcd

from cellflows import errors
from cellflows.gains import (
    gain, greatest_gain, is_kept, kept_flow, least_gain, never_grows, passing, pulled, remainder,
)
from cellflows.means import bottom_flow, bottom_ring, bounds_above, top_flow, top_ring
from cellflows.weights import is_weight
from tests.reckoning import (
    GREAT, LONGEST, NOT_INTEGERS, NOT_RINGS, NOT_RULES, NOT_WEIGHTS, ONES, RISES, ROAD, SHIFT, SPREAD,
    Numbers, check_fresh, check_raises, flow_parts, identity, packed_road, plain_sum, plain_tick,
    plain_ticks, rings_up_to, some_rules, some_weights, word_number, word_round, words,
)

OF_RULE_AND_WEIGHT = (pulled, gain, is_kept, never_grows, remainder, kept_flow)
OVER_TICKS = (greatest_gain, least_gain)
PULLED_ALONE = (pulled, is_kept, never_grows, remainder)

NOT_TICKS = NOT_INTEGERS + (-1, 9, 10, 10 ** 30, -10 ** 39)
THREES = (3, 1, [0, 1, 2])


def plain_pulled(rule, weight):
    signs, first, width, table = rule
    _, span, values = weight
    found = []
    for word in words(signs, width + span - 1):
        made = [table[word_number(signs, word[start:start + width])] for start in range(span)]
        found.append(values[word_number(signs, made)])
    return (signs, width + span - 1, found)


def plain_gain(rule, weight):
    """The weight of the gain, by the cells that play a part in the value at the cell 0."""
    signs, first, width, table = rule
    _, span, values = weight
    low = min(0, first)
    high = max(span - 1, first + width + span - 2)
    found = []
    for word in words(signs, high - low + 1):
        at = dict(zip(range(low, high + 1), word))
        ahead = [at[cell] for cell in range(span)]
        behind = [
            table[word_number(signs, [at[cell + first + place] for place in range(width)])] for cell in range(span)
        ]
        found.append(values[word_number(signs, behind)] - values[word_number(signs, ahead)])
    return (signs, high - low + 1, found)


def cell_gains(rule, weight, ring):
    """What the value at each cell of a ring gains in a tick."""
    signs, span, values = weight
    later = plain_tick(rule, ring)
    return [
        values[word_number(signs, word_round(later, cell, span))]
        - values[word_number(signs, word_round(ring, cell, span))]
        for cell in range(len(ring))
    ]


def ring_gains(rule, weight, rings):
    return [plain_sum(weight, plain_tick(rule, ring)) - plain_sum(weight, ring) for ring in rings]


def wide_difference(rule, weight, ticks):
    """The weight by which each ring has its gain in so many ticks, each word from one cell on."""
    signs, span, values = weight
    later = weight
    for _ in range(ticks):
        later = plain_pulled(rule, later)
    behind = signs ** (later[1] - span)
    return (signs, later[1], [value - values[at // behind] for at, value in enumerate(later[2])])


def flow_among_zeros(rule, weight, word, low):
    """What passes at a border with this word of cells around it, and no other sign than 0 elsewhere."""
    room = 130
    ring = [0] * room + word + [0] * room
    return -sum(cell_gains(rule, weight, ring)[:room - low])


def pairs_of(rules, weights):
    """Each rule with a weight of as many signs."""
    return [(rule, weight) for rule, weight in zip(rules, weights) if rule[0] == weight[0]]


def far_pairs(seed):
    """Rules that look far to the left or to the right, and weights whose gains have enough words."""
    numbers = Numbers(seed)
    found = []
    for signs, most in LONGEST.items():
        for width in (1, 2, 3):
            for span in (1, 2):
                for first in (span - most, 1 - most, most - width - span + 1, 2, -3):
                    low, high = min(0, first), max(span - 1, first + width + span - 2)
                    if high - low + 1 <= most:
                        rule = (signs, first, width, numbers.signs(signs, signs ** width))
                        values = [numbers.below(11) - 5 for _ in range(signs ** span)]
                        found.append((rule, (signs, span, values)))
    return found


KEPT = [
    (ROAD, ONES), (ROAD, (2, 1, [5, 8])), (ROAD, (2, 1, [4, 4])), (ROAD, (2, 1, [0, 0])), (SHIFT, ONES), (SHIFT, RISES),
    (ROAD, (2, 2, [0, 7, -6, 1])), (ROAD, (2, 3, [0, 0, 1, 1, 0, 0, 1, 1])), (SPREAD, (2, 2, [0, 3, -3, 0])),
    (SPREAD, (2, 1, [-2, -2])), (identity(2, 0), RISES), (identity(2, 0), (2, 1, [GREAT, -GREAT])),
    (identity(2, 5), ONES), (identity(2, -5), ONES), (identity(2, 9), ONES), (identity(2, -9), ONES),
    (identity(2, 7), RISES), (identity(2, -8), RISES), (identity(3, -2), (3, 2, [5, 0, 1, 2, -7, 3, 3, 9, 1])),
    (identity(4, 4), (4, 1, [3, 1, 4, 1])), (identity(4, -4), (4, 1, [3, 1, 4, 1])), ((2, 1, 1, [1, 0]), (2, 2, [0, 1, 1, 0])),
    (packed_road(2), ONES), (packed_road(3), THREES), (packed_road(4), (4, 1, [0, 1, 2, 3])),
    (packed_road(3, 2), THREES), (packed_road(3, -4), THREES), (packed_road(2, 4), ONES), (packed_road(2, -9), ONES),
    (packed_road(3, -1), (3, 1, [1, 11, 21])),
]

NOT_KEPT = [
    (SPREAD, ONES), (ROAD, RISES), ((2, 0, 1, [1, 0]), ONES), ((2, 0, 1, [0, 0]), ONES), ((2, 0, 1, [1, 1]), ONES),
    (packed_road(3), (3, 1, [0, 1, 3])), (packed_road(4), (4, 1, [0, 0, 0, 1])), ((2, 3, 1, [1, 0]), RISES[:2] + ([0, 0, 0, 1],)),
]


class TestPulled(unittest.TestCase):

    def test_example(self):
        self.assertEqual(pulled(SPREAD, ONES), (2, 2, [0, 1, 1, 1]))

    def test_value_by_value(self):
        for rule, weight in pairs_of(some_rules(201, 60), some_weights(203, 60)):
            if weight[1] + rule[2] - 1 <= LONGEST[rule[0]]:
                told = check_fresh(self, pulled, rule, weight)
                self.assertEqual(told, plain_pulled(rule, weight))
                self.assertIs(is_weight(told), True)

    def test_where_the_rule_looks_makes_no_difference(self):
        for first in (-100, -7, 0, 3, 98):
            self.assertEqual(pulled((2, first) + ROAD[2:], RISES), plain_pulled(ROAD, RISES))

    def test_the_sum_behind_a_tick(self):
        for rule, weight in far_pairs(205):
            told = pulled(rule, weight)
            for ring in rings_up_to(rule[0], 3) + [Numbers(7).signs(rule[0], 30)]:
                self.assertEqual(plain_sum(told, ring), plain_sum(weight, plain_tick(rule, ring)))

    def test_a_width_and_a_span_of_one(self):
        self.assertEqual(pulled((3, 7, 1, [2, 2, 0]), (3, 1, [5, 6, 7])), (3, 1, [7, 7, 5]))
        self.assertEqual(pulled((2, 0, 1, [1, 0]), (2, 2, [1, 2, 3, 4])), (2, 2, [4, 3, 2, 1]))

    def test_greatest_weights(self):
        numbers = Numbers(207)
        for signs, most in LONGEST.items():
            for width in range(1, most + 1):
                span = most + 1 - width
                rule = (signs, 0, width, numbers.signs(signs, signs ** width))
                weight = (signs, span, [numbers.below(GREAT) for _ in range(signs ** span)])
                self.assertEqual(pulled(rule, weight), plain_pulled(rule, weight))


class TestGain(unittest.TestCase):

    def test_examples(self):
        self.assertEqual(gain(SPREAD, ONES), (2, 2, [0, 1, 0, 0]))
        self.assertIs(bounds_above(gain(ROAD, ONES), (0, 1), [0, 0, 1, 0]), True)
        self.assertIs(bounds_above(gain(ROAD, ONES), (0, 1), [0, 1, 0, 0]), False)

    def test_value_by_value(self):
        for rule, weight in pairs_of(some_rules(211, 90, 1), some_weights(213, 90)):
            told = plain_gain(rule, weight)
            if told[1] <= LONGEST[rule[0]]:
                self.assertEqual(check_fresh(self, gain, rule, weight), told)

    def test_rules_that_look_far(self):
        pairs = far_pairs(217)
        self.assertTrue(any(rule[1] == -9 for rule, _ in pairs))
        self.assertTrue(any(rule[1] == 9 for rule, _ in pairs))
        for rule, weight in pairs:
            told = gain(rule, weight)
            self.assertEqual(told, plain_gain(rule, weight))
            for ring in rings_up_to(rule[0], 3) + [Numbers(5).signs(rule[0], 25)]:
                self.assertEqual([plain_sum(told, ring)], ring_gains(rule, weight, [ring]))

    def test_by_hand(self):
        # The cells are 0 to 1, then -1 to 0, then 0 to 2, then -2 to 0.
        self.assertEqual(gain(SHIFT, ONES), (2, 2, [0, 1, -1, 0]))
        self.assertEqual(gain((2, -1, 1, [0, 1]), ONES), (2, 2, [0, -1, 1, 0]))
        self.assertEqual(gain((2, 2, 1, [0, 1]), ONES), (2, 3, [0, 1, 0, 1, -1, 0, -1, 0]))
        self.assertEqual(gain((2, -2, 1, [0, 1]), ONES), (2, 3, [0, -1, 0, -1, 1, 0, 1, 0]))
        self.assertEqual(gain((2, 0, 1, [1, 0]), (2, 1, [3, 10])), (2, 1, [7, -7]))
        # The value at a cell behind the tick is told by cells on its left alone.
        self.assertEqual(gain((2, -2, 1, [0, 1]), RISES)[1], 4)
        self.assertEqual(gain((2, -1, 1, [0, 1]), RISES), (2, 3, [0, -1, 1, 1, 0, -1, 0, 0]))

    def test_where_the_cells_end(self):
        # The span is the greatest that there is, and one cell more is too many.
        for signs, most in LONGEST.items():
            weight = (signs, 1, list(range(signs)))
            for first in (most - 1, 1 - most):
                self.assertEqual(gain(identity(signs, first), weight)[1], most)
                self.assertEqual(len(gain(identity(signs, first), weight)[2]), signs ** most)
            for first in (most, -most, 100, -100):
                error = check_raises(self, errors.TooLarge, gain, identity(signs, first), weight)
                self.assertEqual(error.limit, 1024)
        self.assertEqual(gain((2, 0, 1, [1, 0]), (2, 10, [0] * 1024)), (2, 10, [0] * 1024))


class TestGreatestAndLeastGain(unittest.TestCase):

    def test_examples(self):
        self.assertEqual(greatest_gain(SPREAD, ONES, 1), (1, 2))
        self.assertEqual(least_gain(SPREAD, ONES, 1), (0, 1))
        self.assertEqual(greatest_gain(SPREAD, ONES, 2), (2, 3))

    def test_spreading_from_one_cell(self):
        for ticks in range(9):
            self.assertEqual(greatest_gain(SPREAD, ONES, ticks), (ticks, ticks + 1))
            self.assertEqual(least_gain(SPREAD, ONES, ticks), (0, 1))
            shrink = (2, 0, 2, [0, 0, 0, 1])
            self.assertEqual(least_gain(shrink, ONES, ticks), (-ticks, ticks + 1))
            self.assertEqual(greatest_gain(shrink, ONES, ticks), (0, 1))

    def test_no_tick_gains_nothing(self):
        for rule, weight in KEPT + NOT_KEPT + [((2, -100, 10, [1] * 1024), (2, 10, list(range(1024))))]:
            self.assertEqual(greatest_gain(rule, weight, 0), (0, 1))
            self.assertEqual(least_gain(rule, weight, 0), (0, 1))

    def test_changing_signs(self):
        change = (2, 3, 1, [1, 0])
        for ticks in range(9):
            odd = ticks % 2
            self.assertEqual(greatest_gain(change, ONES, ticks), (odd, 1))
            self.assertEqual(least_gain(change, ONES, ticks), (-odd, 1))
            self.assertEqual(greatest_gain(change, (2, 10, [0] * 1023 + [12]), ticks), (12 * odd, 1))
        turn = (3, -50, 1, [1, 2, 0])
        self.assertEqual([greatest_gain(turn, THREES, ticks) for ticks in range(5)], [(0, 1), (1, 1), (2, 1), (0, 1), (1, 1)])
        self.assertEqual([least_gain(turn, THREES, ticks) for ticks in range(5)], [(0, 1), (-2, 1), (-1, 1), (0, 1), (-2, 1)])

    def test_against_all_rings(self):
        tried = 0
        for rule, weight in pairs_of(some_rules(221, 160), some_weights(223, 160)):
            for ticks in (1, 2, 3):
                places = rule[0] ** (ticks * (rule[2] - 1) + weight[1] - 1)
                if places > 8 or rule[0] ** places > 1000:
                    continue
                tried += 1
                gains = [
                    Fraction(plain_sum(weight, plain_ticks(rule, ring, ticks)) - plain_sum(weight, ring), len(ring))
                    for ring in rings_up_to(rule[0], places)
                ]
                top, bottom = max(gains), min(gains)
                self.assertEqual(greatest_gain(rule, weight, ticks), (top.numerator, top.denominator))
                self.assertEqual(least_gain(rule, weight, ticks), (bottom.numerator, bottom.denominator))
        self.assertGreater(tried, 50)

    def check_proved(self, rule, weight, ticks):
        """A ring gains just so, and a flow shows that none gains more, or less."""
        difference = wide_difference(rule, weight, ticks)
        for mean, ring, flow, sign in (
            (greatest_gain(rule, weight, ticks), top_ring(difference), top_flow(difference), 1),
            (least_gain(rule, weight, ticks), bottom_ring(difference), bottom_flow(difference), -1),
        ):
            self.assertEqual(gcd(*mean), 1)
            gained = plain_sum(weight, plain_ticks(rule, ring, ticks)) - plain_sum(weight, ring)
            self.assertEqual(gained * mean[1], mean[0] * len(ring))
            parts = flow_parts(difference, mean[1], flow)
            self.assertLessEqual(max(sign * part for part in parts), sign * mean[0])

    def test_many_ticks(self):
        numbers = Numbers(227)
        for ticks in range(1, 9):
            for width, span in ((2, 2), (2, 1), (1, 4)):
                rule = (2, numbers.below(150) - 70, width, numbers.signs(2, 2 ** width))
                weight = (2, span, [numbers.below(9) - 4 for _ in range(2 ** span)])
                self.check_proved(rule, weight, ticks)
        for signs, ticks, width, span in ((3, 5, 2, 1), (3, 2, 3, 2), (4, 4, 2, 1), (4, 1, 3, 3), (2, 3, 4, 1), (2, 4, 3, 2)):
            rule = (signs, -60, width, numbers.signs(signs, signs ** width))
            weight = (signs, span, [numbers.below(10 ** 30) for _ in range(signs ** span)])
            self.check_proved(rule, weight, ticks)

    def test_the_greatest_gain_in_a_tick_is_the_greatest_mean_of_the_gain(self):
        for rule, weight in far_pairs(229)[::4]:
            told = gain(rule, weight)
            top, bottom = greatest_gain(rule, weight, 1)
            ring = top_ring(told)
            self.assertEqual(plain_sum(told, ring) * bottom, top * len(ring))
            self.assertIs(bounds_above(told, (top, bottom), top_flow(told)), True)

    def test_kept_weights_gain_nothing(self):
        for rule, weight in KEPT:
            for ticks in (1, 2):
                self.assertEqual([greatest_gain(rule, weight, ticks), least_gain(rule, weight, ticks)], [(0, 1), (0, 1)])

    def test_results_are_new_and_arguments_stay(self):
        for rule, weight in KEPT[:5] + NOT_KEPT[:5]:
            for call in OVER_TICKS:
                check_fresh(self, call, rule, weight, 2)

    def test_too_large(self):
        for call in OVER_TICKS:
            self.assertEqual(call(ROAD, ONES, 4), (0, 1))
            for ticks in (5, 6, 8):
                self.assertEqual(check_raises(self, errors.TooLarge, call, ROAD, ONES, ticks).limit, 1024)
            wide = (2, -50, 10, [0] * 1024)
            self.assertEqual(call(wide, ONES, 0), (0, 1))
            self.assertEqual(greatest_gain(wide, ONES, 1), (0, 1))
            check_raises(self, errors.TooLarge, call, wide, ONES, 2)
            check_raises(self, errors.TooLarge, call, wide, RISES, 1)
            check_raises(self, errors.TooLarge, call, SPREAD, (2, 10, [0] * 1024), 1)
            check_raises(self, errors.TooLarge, call, (3, 0, 3, [0] * 27), THREES, 3)
            check_raises(self, errors.TooLarge, call, (4, 0, 2, [0] * 16), (4, 1, [0] * 4), 5)

    def test_far_rules_are_not_too_large(self):
        for first in (-100, -10, 10, 97):
            self.assertEqual(greatest_gain((2, first) + ROAD[2:], ONES, 4), (0, 1))
            self.assertEqual(greatest_gain((2, first) + SPREAD[2:], ONES, 8), (8, 9))

    def test_wrong_arguments(self):
        for call in OVER_TICKS:
            for value in NOT_RULES:
                check_raises(self, errors.InvalidRule, call, value, None, None)
                check_raises(self, errors.InvalidRule, call, value, ONES, 1)
            for value in NOT_WEIGHTS:
                check_raises(self, errors.InvalidWeight, call, ROAD, value, 1)
                check_raises(self, errors.InvalidWeight, call, ROAD, value, -1)
            for value in NOT_TICKS:
                check_raises(self, errors.InvalidTicks, call, ROAD, ONES, value)
                check_raises(self, errors.InvalidTicks, call, ROAD, THREES, value)
            for ticks in (0, 1, 8):
                check_raises(self, errors.UnlikeSigns, call, ROAD, THREES, ticks)
                check_raises(self, errors.UnlikeSigns, call, ROAD, (4, 5, [0] * 1024), ticks)
                check_raises(self, errors.UnlikeSigns, call, (3, 0, 6, [0] * 729), RISES, ticks)


class TestKept(unittest.TestCase):

    def test_examples(self):
        self.assertIs(is_kept(ROAD, ONES), True)
        self.assertIs(never_grows(ROAD, RISES), False)

    def test_kept_weights(self):
        for rule, weight in KEPT:
            self.assertIs(check_fresh(self, is_kept, rule, weight), True, (rule, weight))
            self.assertIs(check_fresh(self, never_grows, rule, weight), True)
            self.assertEqual(check_fresh(self, remainder, rule, weight), 0)

    def test_weights_that_are_not_kept(self):
        for rule, weight in NOT_KEPT:
            self.assertIs(check_fresh(self, is_kept, rule, weight), False, (rule, weight))
            self.assertNotEqual(check_fresh(self, remainder, rule, weight), 0)

    def test_all_rules_of_three_cells_and_two_signs(self):
        # Just these five are known to keep the number of the cells with 1.
        found = []
        for number in range(256):
            rule = (2, -1, 3, [number >> at & 1 for at in range(8)])
            kept = is_kept(rule, ONES)
            self.assertIs(kept, not any(ring_gains(rule, ONES, rings_up_to(2, 5))))
            if kept:
                found.append(number)
        self.assertEqual(found, [170, 184, 204, 226, 240])

    def test_against_all_rings(self):
        seen = set()
        for rule, weight in pairs_of(some_rules(231, 150), some_weights(233, 150, 2)) + [
            (rule, weight) for rule in some_rules(237, 40) for weight in ((rule[0], 1, [0] * (rule[0] - 1) + [6]),)
        ]:
            span = rule[2] + weight[1] - 1
            if rule[0] ** (2 * span - 1) > 5000:
                continue
            # By rings of so many cells a weight can be told, and each ring goes through few places.
            rings = rings_up_to(rule[0], 2 * span - 1)
            gains = ring_gains(rule, weight, rings)
            self.assertEqual(remainder(rule, weight), gcd(*gains))
            self.assertIs(is_kept(rule, weight), not any(gains))
            if rule[0] ** (span - 1) <= 2 * span - 1:
                self.assertIs(never_grows(rule, weight), max(gains) <= 0)
                seen.add((max(gains) <= 0, min(gains) < 0))
            elif max(gains) > 0:
                self.assertIs(never_grows(rule, weight), False)
        self.assertEqual(len(seen), 4)

    def test_rules_of_two_cells(self):
        for table in product((0, 1), repeat=4):
            for weight in (ONES, RISES, (2, 1, [1, 0]), (2, 2, [0, 0, 0, 1]), (2, 2, [2, 1, 1, 0])):
                for first in (-60, -1, 0, 2):
                    rule = (2, first, 2, list(table))
                    gains = ring_gains(rule, weight, rings_up_to(2, 4))
                    self.assertIs(never_grows(rule, weight), max(gains) <= 0)
                    self.assertIs(is_kept(rule, weight), not any(gains))

    def test_what_loses_alone(self):
        self.assertIs(never_grows((2, 0, 2, [0, 0, 0, 1]), ONES), True)
        self.assertIs(is_kept((2, 0, 2, [0, 0, 0, 1]), ONES), False)
        self.assertIs(never_grows((2, 0, 2, [0, 1, 1, 1]), ONES), False)
        self.assertIs(never_grows((2, 0, 2, [0, 1, 1, 1]), (2, 1, [0, -1])), True)
        # Here a cell gains only if the eight cells on its right have 1.
        rare = (2, 0, 9, [0] * 255 + [1] + [1] * 256)
        self.assertIs(never_grows(rare, ONES), False)
        self.assertEqual(greatest_gain(rare, ONES, 1), (1, 9))

    def test_remainders(self):
        self.assertEqual(remainder(SPREAD, ONES), 1)
        self.assertEqual(remainder(SPREAD, (2, 1, [0, 10])), 10)
        self.assertEqual(remainder(SPREAD, (2, 1, [10, -5])), 15)
        self.assertEqual(remainder((2, 0, 1, [1, 0]), (2, 1, [0, GREAT])), GREAT)
        # Whether an odd number of three cells have 1: no value of the gain is 2, but all sums are even.
        odd = (2, -1, 3, [0, 1, 1, 0, 1, 0, 0, 1])
        self.assertEqual(max(abs(value) for value in gain(odd, ONES)[2]), 1)
        self.assertEqual(remainder(odd, ONES), 2)

    def test_remainders_of_all_rules_of_three_cells(self):
        even = 0
        for number in range(256):
            rule = (2, -1, 3, [number >> at & 1 for at in range(8)])
            told = gcd(*ring_gains(rule, ONES, rings_up_to(2, 5)))
            self.assertEqual(remainder(rule, ONES), told)
            even += told == 2
        self.assertGreater(even, 0)

    def test_far_rules_are_not_too_large(self):
        for first in (-100, -10, 10, 97):
            rule = (2, first) + ROAD[2:]
            self.assertIs(is_kept(rule, ONES), True)
            self.assertIs(never_grows(rule, ONES), True)
            self.assertEqual(remainder(rule, (2, 2, [0, 0, 0, 1])), gcd(*ring_gains(rule, (2, 2, [0, 0, 0, 1]), rings_up_to(2, 7))))

    def test_too_large(self):
        full = (2, 10, [0] * 1024)
        for call in PULLED_ALONE:
            for rule, weight in (
                (SPREAD, full), (ROAD, (2, 9, [0] * 512)), ((2, 0, 10, [0] * 1024), RISES),
                ((3, 0, 6, [0] * 729), (3, 2, [0] * 9)), ((4, 0, 3, [0] * 64), (4, 4, [0] * 256)),
            ):
                self.assertEqual(check_raises(self, errors.TooLarge, call, rule, weight).limit, 1024)
            for rule, weight in (
                (SHIFT, full), (SPREAD, (2, 9, [0] * 512)), ((2, 0, 10, [0] * 1024), ONES), ((4, 0, 3, [0] * 64), (4, 3, [0] * 64)),
            ):
                call(rule, weight)

    def test_wrong_arguments(self):
        for call in OF_RULE_AND_WEIGHT:
            for value in NOT_RULES:
                check_raises(self, errors.InvalidRule, call, value, ONES)
                check_raises(self, errors.InvalidRule, call, value, None)
            for value in NOT_WEIGHTS:
                check_raises(self, errors.InvalidWeight, call, ROAD, value)
            check_raises(self, errors.UnlikeSigns, call, ROAD, THREES)
            check_raises(self, errors.UnlikeSigns, call, (3, -100, 6, [0] * 729), (2, 10, [0] * 1024))
            check_raises(self, errors.UnlikeSigns, call, (4, 0, 1, [0, 1, 2, 3]), (3, 1, [0, 1, 2]))


class TestKeptFlow(unittest.TestCase):

    def test_example(self):
        self.assertEqual(kept_flow(ROAD, ONES), [0, 0, 1, 0])
        self.assertEqual(passing(ROAD, ONES, [1, 1, 0, 0]), [0, 0, 1, 0])

    def test_the_equation_for_each_word(self):
        for rule, weight in KEPT:
            signs, span, values = plain_gain(rule, weight)
            flow = check_fresh(self, kept_flow, rule, weight)
            self.assertIs(type(flow), list)
            self.assertEqual([type(item) for item in flow], [int] * signs ** (span - 1))
            self.assertEqual(flow[0], 0)
            for word, value in zip(words(signs, span), values):
                self.assertEqual(value, flow[word_number(signs, word[:-1])] - flow[word_number(signs, word[1:])])

    def test_it_is_what_passes_among_zeros(self):
        for rule, weight in KEPT:
            signs, span, _ = plain_gain(rule, weight)
            flow = kept_flow(rule, weight)
            for number in range(0, len(flow), 1 + len(flow) // 9):
                word = words(signs, span - 1)[number]
                self.assertEqual(flow[number], flow_among_zeros(rule, weight, word, min(0, rule[1])))

    def test_by_hand(self):
        # All marks go one cell to the left, or to the right, or several.
        self.assertEqual(kept_flow(SHIFT, ONES), [0, -1])
        self.assertEqual(kept_flow((2, -1, 1, [0, 1]), ONES), [0, 1])
        self.assertEqual(kept_flow((2, 2, 1, [0, 1]), ONES), [0, -1, -1, -2])
        self.assertEqual(kept_flow((2, -3, 1, [0, 1]), ONES), [0, 1, 1, 2, 1, 2, 2, 3])
        self.assertEqual(kept_flow(identity(2, 0), ONES), [0])
        self.assertEqual(kept_flow(identity(4, 1), (4, 1, [7, 8, 5, 7])), [0, -1, 2, 0])
        self.assertEqual(kept_flow(packed_road(3), THREES), [0, 0, 0, 1, 1, 0, 2, 1, 0])
        self.assertEqual(kept_flow((2, 0, 1, [1, 0]), (2, 1, [4, 4])), [0])

    def test_the_greatest_gains(self):
        for first, sign in ((9, -1), (-9, 1)):
            flow = kept_flow(identity(2, first), ONES)
            self.assertEqual(flow, [sign * sum(word) for word in words(2, 9)])

    def test_not_kept(self):
        for rule, weight in NOT_KEPT:
            check_raises(self, errors.NotKept, kept_flow, rule, weight)
            for ring in ([0], [1, 0, 1, 1], [0] * 512):
                check_raises(self, errors.NotKept, passing, rule, weight, ring)
        numbers = Numbers(241)
        for rule, weight in pairs_of(some_rules(243, 60, 1), some_weights(247, 60)):
            if plain_gain(rule, weight)[1] <= LONGEST[rule[0]] and any(ring_gains(rule, weight, rings_up_to(rule[0], 4))):
                check_raises(self, errors.NotKept, kept_flow, rule, weight)
                check_raises(self, errors.NotKept, passing, rule, weight, numbers.signs(rule[0], 6))

    def test_too_large(self):
        for rule, weight in (
            (identity(2, 10), ONES), (identity(2, -10), ONES), (identity(2, 100), ONES), (identity(2, -100), ONES),
            (identity(3, 6), THREES), (identity(3, -6), THREES), (SPREAD, (2, 10, [0] * 1024)),
            ((2, 10, 1, [1, 0]), ONES), ((2, 99, 2, [0, 1, 1, 1]), ONES), (packed_road(4, -5), (4, 1, [0, 1, 2, 3])),
            ((2, -100, 10, [0] * 1024), ONES),
        ):
            self.assertEqual(check_raises(self, errors.TooLarge, kept_flow, rule, weight).limit, 1024)
            self.assertEqual(check_raises(self, errors.TooLarge, passing, rule, weight, [0, 1]).limit, 1024)
            check_raises(self, errors.TooLarge, gain, rule, weight)


class TestPassing(unittest.TestCase):

    def test_each_border(self):
        numbers = Numbers(251)
        for rule, weight in KEPT:
            signs = rule[0]
            low, span = min(0, rule[1]), plain_gain(rule, weight)[1]
            flow = kept_flow(rule, weight)
            rings = rings_up_to(signs, 3) + [numbers.signs(signs, cells) for cells in (4, 7, 20, 60)]
            for ring in rings:
                told = check_fresh(self, passing, rule, weight, ring)
                self.assertEqual(len(told), len(ring))
                gains = cell_gains(rule, weight, ring)
                self.assertEqual(gains, [told[cell] - told[(cell + 1) % len(ring)] for cell in range(len(ring))])
                around = [word_round(ring, cell + low, span - 1) for cell in range(len(ring))]
                self.assertEqual(told, [flow[word_number(signs, word)] for word in around])

    def test_nothing_passes_among_zeros(self):
        for rule, weight in KEPT:
            self.assertEqual(passing(rule, weight, [0] * 5), [0] * 5)
            ring = [1] + [0] * 40
            told = passing(rule, weight, ring)
            self.assertEqual(told[15:26], [0] * 11)

    def test_rings_one_behind_the_other(self):
        for rule, weight in KEPT:
            for ring in ([1], [0, 1], [1, 1, 0]):
                self.assertEqual(passing(rule, weight, ring * 7), passing(rule, weight, ring) * 7)

    def test_by_hand(self):
        self.assertEqual(passing(SHIFT, ONES, [1, 0, 0]), [-1, 0, 0])
        self.assertEqual(passing((2, -1, 1, [0, 1]), ONES, [1, 0, 0]), [0, 1, 0])
        self.assertEqual(passing((2, 2, 1, [0, 1]), ONES, [1, 0, 0, 0]), [-1, 0, 0, -1])
        self.assertEqual(passing(SHIFT, ONES, [1]), [-1])
        self.assertEqual(passing(identity(2, -9), ONES, [1]), [9])
        self.assertEqual(passing(identity(2, 0), ONES, [1, 0, 1]), [0, 0, 0])
        self.assertEqual(passing(packed_road(3), THREES, [2, 1, 0]), [0, 1, 1])

    def test_greatest_rings(self):
        for rule, weight in KEPT[::3]:
            ring = Numbers(253).signs(rule[0], 512)
            told = passing(rule, weight, ring)
            gains = cell_gains(rule, weight, ring)
            self.assertEqual(gains, [told[cell] - told[(cell + 1) % 512] for cell in range(512)])

    def test_wrong_arguments(self):
        for value in NOT_RULES:
            check_raises(self, errors.InvalidRule, passing, value, None, None)
            check_raises(self, errors.InvalidRule, passing, value, ONES, [0, 1])
        for value in NOT_WEIGHTS:
            check_raises(self, errors.InvalidWeight, passing, ROAD, value, [0, 1])
            check_raises(self, errors.InvalidWeight, passing, ROAD, value, None)
        for value in NOT_RINGS:
            check_raises(self, errors.InvalidRing, passing, ROAD, ONES, value)
            check_raises(self, errors.InvalidRing, passing, ROAD, THREES, value)
            check_raises(self, errors.InvalidRing, passing, SPREAD, ONES, value)
            check_raises(self, errors.InvalidRing, passing, identity(2, 100), ONES, value)
        # The ring has to have the signs of the rule, not those of the weight.
        check_raises(self, errors.InvalidRing, passing, ROAD, THREES, [0, 2])
        check_raises(self, errors.UnlikeSigns, passing, ROAD, THREES, [0, 1])
        check_raises(self, errors.UnlikeSigns, passing, packed_road(3), ONES, [0, 2])
        check_raises(self, errors.UnlikeSigns, passing, identity(2, 100), THREES, [0, 1])


if __name__ == "__main__":
    unittest.main()
