import unittest
from fractions import Fraction
from itertools import product
from math import gcd

from cellflows import errors
from cellflows.means import (
    bottom_flow, bottom_ring, bounds_above, bounds_below, greatest_mean, least_mean, top_flow, top_ring,
)
from cellflows.rules import is_ring
from tests.reckoning import (
    GREAT, LONGEST, NOT_INTEGERS, NOT_WEIGHTS, ODD_VALUES, ONES, RISES, Numbers, check_fresh,
    check_raises, flow_parts, fulls, negative, plain_sum, rings_up_to, some_weights, word_number,
    word_round, words,
)

OF_ONE_WEIGHT = (greatest_mean, least_mean, top_ring, bottom_ring, top_flow, bottom_flow)
BOUNDS = (bounds_above, bounds_below)

NOT_MEANS = ODD_VALUES + (
    [1, 2], (1,), (1, 2, 3), (1, 0), (0, 0), (1, -1), (-1, -2), (True, 1), (1, True), (False, 2), (None, 1), (1, None),
    ("1", 2), (1, "2"), ([1], 2), (1, [2]), ((1, 2),), (1, -10 ** 39), {1: 2}, "12",
)


def least_period(word):
    """How many cells further the word can begin again at least."""
    return next(gap for gap in range(1, len(word) + 1) if word[gap:] == word[:len(word) - gap])


def lone(signs, span, number, value, rest=0):
    """A weight by which one word has a value, and all others another one."""
    values = [rest] * signs ** span
    values[number] = value
    return (signs, span, values)


def planted(signs, span, rings, value, rest):
    """A weight by which each word of these rings has a value, and the others what is passed."""
    values = list(rest)
    for ring in rings:
        for cell in range(len(ring)):
            values[word_number(signs, word_round(ring, cell, span))] = value
    return (signs, span, values)


def full_ring(signs, length):
    """A ring in which each word of this length stands once."""
    ring = [0] * length
    seen = {tuple(ring)}
    while len(seen) < signs ** length:
        behind = ring[len(ring) - length + 1:]
        sign = max(sign for sign in range(signs) if tuple(behind + [sign]) not in seen)
        seen.add(tuple(behind + [sign]))
        ring.append(sign)
    return ring[:signs ** length]


def fewest_steps(signs, span, allowed):
    """How many cells a ring has at least all of whose words have one of these numbers."""
    places = signs ** (span - 1)
    came_from = [1 << place for place in range(places)]
    for steps in range(1, places + 1):
        further = [0] * places
        for number in allowed:
            further[number % places] |= came_from[number // signs]
        if any(further[place] >> place & 1 for place in range(places)):
            return steps
        came_from = further
    raise AssertionError("no ring")


class TestMeans(unittest.TestCase):

    def check_lowest(self, mean):
        self.assertIs(type(mean), tuple)
        self.assertEqual([type(part) for part in mean], [int, int])
        self.assertGreaterEqual(mean[1], 1)
        self.assertEqual(gcd(*mean), 1)

    def check_side(self, weight, mean, ring, flow, side):
        """A mean, a ring that has it and a flow that bounds by it prove each other.

        The side is 1 for the greatest mean, and -1 for the least one.
        """
        signs, span, values = weight
        self.check_lowest(mean)
        self.assertIs(is_ring(signs, ring), True)
        self.assertEqual(plain_sum(weight, ring) * mean[1], mean[0] * len(ring))
        self.assertIs(type(flow), list)
        self.assertEqual([type(item) for item in flow], [int] * signs ** (span - 1))
        parts = flow_parts(weight, mean[1], flow)
        self.assertLessEqual(max(side * part for part in parts), side * mean[0])
        # The words of a ring with this mean are those for which both sides are equal.
        allowed = [number for number, part in enumerate(parts) if part == mean[0]]
        self.assertEqual(len(ring), fewest_steps(signs, span, allowed))

    def check_top(self, weight):
        mean, flow = greatest_mean(weight), top_flow(weight)
        self.check_side(weight, mean, top_ring(weight), flow, 1)
        self.assertIs(bounds_above(weight, mean, flow), True)

    def check_bottom(self, weight):
        mean, flow = least_mean(weight), bottom_flow(weight)
        self.check_side(weight, mean, bottom_ring(weight), flow, -1)
        self.assertIs(bounds_below(weight, mean, flow), True)

    def check_both(self, weight):
        self.check_top(weight)
        self.check_bottom(weight)

    def test_examples(self):
        self.assertEqual(greatest_mean(RISES), (1, 2))
        self.assertEqual(least_mean(RISES), (0, 1))
        self.assertEqual(len(top_ring(RISES)), 2)
        self.assertEqual(greatest_mean((2, 1, [-3, -5])), (-3, 1))

    def test_against_all_rings(self):
        for weight in some_weights(101, 80):
            signs, span, _ = weight
            places = signs ** (span - 1)
            if signs ** places > 1000:
                continue
            self.check_both(weight)
            means = {}
            for ring in rings_up_to(signs, places):
                means.setdefault(Fraction(plain_sum(weight, ring), len(ring)), len(ring))
            top, bottom = max(means), min(means)
            self.assertEqual(greatest_mean(weight), (top.numerator, top.denominator))
            self.assertEqual(least_mean(weight), (bottom.numerator, bottom.denominator))
            # Shorter rings come first, so the length that is kept is the least one.
            self.assertEqual(len(top_ring(weight)), means[top])
            self.assertEqual(len(bottom_ring(weight)), means[bottom])

    def test_all_small_weights(self):
        for values in product((-1, 0, 2), repeat=4):
            weight = (2, 2, list(values))
            means = [Fraction(plain_sum(weight, ring), len(ring)) for ring in ([0], [1], [0, 1])]
            self.assertEqual(Fraction(*greatest_mean(weight)), max(means))
            self.assertEqual(Fraction(*least_mean(weight)), min(means))
            self.assertEqual(len(top_ring(weight)), 2 if max(means) > max(means[:2]) else 1)
            self.assertEqual(len(bottom_ring(weight)), 2 if min(means) < min(means[:2]) else 1)
            self.check_both(weight)

    def test_random_weights(self):
        for weight in some_weights(103, 60) + some_weights(107, 30, 10 ** 30) + some_weights(109, 30, 1):
            self.check_both(weight)

    def test_results_are_new_and_arguments_stay(self):
        for weight in some_weights(113, 9) + fulls(127, 3):
            for call in OF_ONE_WEIGHT:
                check_fresh(self, call, weight)

    def test_span_one(self):
        for signs, values in ((2, [0, 1]), (2, [-3, -5]), (3, [4, 4, 4]), (4, [GREAT, 0, -GREAT, 1]), (3, [0, 0, 0])):
            weight = (signs, 1, values)
            self.assertEqual(greatest_mean(weight), (max(values), 1))
            self.assertEqual(least_mean(weight), (min(values), 1))
            self.assertEqual([values[sign] for sign in top_ring(weight)], [max(values)])
            self.assertEqual([values[sign] for sign in bottom_ring(weight)], [min(values)])
            self.assertEqual(len(top_flow(weight)), 1)
            self.assertEqual(len(bottom_flow(weight)), 1)
            self.check_both(weight)

    def test_one_value_far_above_the_others(self):
        for signs, spans in ((2, range(1, 7)), (3, range(1, 4)), (4, range(1, 4))):
            for span in spans:
                for number, word in enumerate(words(signs, span)):
                    period = least_period(word)
                    value = 10 ** 20
                    top = Fraction(value, period)
                    weight = lone(signs, span, number, value)
                    self.assertEqual(greatest_mean(weight), (top.numerator, top.denominator))
                    self.assertEqual(len(top_ring(weight)), period)
                    self.assertEqual(least_mean(weight), (0, 1))
                    self.assertEqual(len(bottom_ring(weight)), 1)
                    self.assertEqual(least_mean(negative(weight)), (-top.numerator, top.denominator))
                    self.assertEqual(len(bottom_ring(negative(weight))), period)

    def test_one_value_far_above_in_the_greatest_weights(self):
        for signs, span in LONGEST.items():
            for number in (0, 1, signs ** span // 2 + 1):
                weight = lone(signs, span, number, 10 ** 30 + 1, -7)
                period = least_period(words(signs, span)[number])
                mean = Fraction(10 ** 30 + 1 - 7 * (period - 1), period)
                self.assertEqual(greatest_mean(weight), (mean.numerator, mean.denominator))
                self.check_top(weight)

    def test_means_in_lowest_terms(self):
        self.assertEqual(greatest_mean((2, 2, [0, 4, 0, 0])), (2, 1))
        self.assertEqual(greatest_mean((2, 3, [0, 2, 0, 2, 0, 0, 0, 0])), (1, 1))
        self.assertEqual(greatest_mean((2, 3, [0, 0, 6, 0, 0, 0, 0, 0])), (3, 1))
        self.assertEqual(least_mean((2, 2, [0, -4, 0, 0])), (-2, 1))
        self.assertEqual(least_mean((2, 2, [0, -3, 0, 0])), (-3, 2))
        self.assertEqual(greatest_mean((2, 2, [-9, -3, -4, -9])), (-7, 2))
        self.assertEqual(greatest_mean(lone(2, 10, 511, 15)), (3, 2))

    def test_equal_values(self):
        for signs, span in [(2, 1), (2, 2), (3, 2), (4, 3)]:
            for value in (0, 5, -5, 10 ** 30 - 1):
                weight = (signs, span, [value] * signs ** span)
                self.assertEqual([greatest_mean(weight), least_mean(weight)], [(value, 1), (value, 1)])
                self.assertEqual([len(top_ring(weight)), len(bottom_ring(weight))], [1, 1])
                self.check_both(weight)
        for (signs, span), value in zip(LONGEST.items(), (0, -10 ** 30, 7)):
            weight = (signs, span, [value] * signs ** span)
            self.assertEqual([greatest_mean(weight), least_mean(weight)], [(value, 1), (value, 1)])
            self.assertEqual([len(top_ring(weight)), len(bottom_ring(weight))], [1, 1])
            self.check_both(weight)

    def test_weights_by_which_all_rings_have_one_mean(self):
        # What is added at a word is taken away at the next one.
        for signs, span in ((2, 2), (2, 5), (3, 3), (4, 2), (2, 10)):
            numbers = Numbers(span)
            places = signs ** (span - 1)
            drift = [numbers.below(10 ** 30) for _ in range(places)]
            values = [4 + drift[at // signs] - drift[at % places] for at in range(signs ** span)]
            weight = (signs, span, values)
            self.assertEqual([greatest_mean(weight), least_mean(weight)], [(4, 1), (4, 1)])
            self.assertEqual(len(top_ring(weight)), 1)
            self.check_both(weight)

    def test_values_of_thirty_digits_and_more(self):
        for weight in fulls(131, 10 ** 30) + fulls(137, GREAT) + [(2, 2, [0, GREAT, -GREAT, 1])]:
            self.check_both(weight)

    def test_greatest_weights(self):
        for weight in fulls(139, 1) + fulls(149, 20):
            self.check_both(weight)

    def test_rings_of_as_many_cells_as_there_are_places(self):
        # From each place just one step has the great value, and these lead through all places.
        for signs, span in [(2, 2), (2, 5), (3, 3)] + list(LONGEST.items()):
            ring = full_ring(signs, span - 1)
            weight = planted(signs, span, [ring], 1000, [0] * signs ** span)
            self.assertEqual(greatest_mean(weight), (1000, 1))
            self.assertEqual(len(top_ring(weight)), signs ** (span - 1))
            self.assertEqual(len(bottom_ring(negative(weight))), signs ** (span - 1))
            self.check_top(weight)

    def test_planted_rings_in_the_greatest_weights(self):
        for signs, span in LONGEST.items():
            for ring in ([0, 1], [0, 0, 1], [1, 1, 1, 0, 1, 0, 0], [0, 0, 0, 1, 0, 1, 1, 1, 1, 0, 1, 0, 0, 1, 1]):
                numbers = Numbers(len(ring))
                values = [-numbers.below(9) for _ in range(signs ** span)]
                weight = planted(signs, span, [ring], 3, values)
                self.assertEqual(greatest_mean(weight), (3, 1))
                found = top_ring(weight)
                self.assertIn(found, [ring[cell:] + ring[:cell] for cell in range(len(ring))])
                self.assertEqual(least_mean(negative(weight)), (-3, 1))
                self.check_top(weight)

    def test_the_shortest_one_of_several_rings(self):
        # Both rings have the mean 5; the words of neither lead to the other.
        for span in (6, 8, 10):
            for long, short in (([0, 0, 0, 0, 1], [0, 1, 1, 1]), ([0, 1, 1, 1, 1], [0, 0, 0, 1]), ([1, 0, 0], [1, 0])):
                weight = planted(2, span, [long, short], 5, [0] * 2 ** span)
                self.assertEqual(len(top_ring(weight)), len(short))
                self.assertEqual(len(bottom_ring(negative(weight))), len(short))
                self.assertEqual(sum(top_ring(weight)), sum(short))

    def test_wrong_weights(self):
        for value in NOT_WEIGHTS:
            for call in OF_ONE_WEIGHT:
                check_raises(self, errors.InvalidWeight, call, value)


class TestBounds(unittest.TestCase):

    def test_examples(self):
        self.assertIs(bounds_above(RISES, (1, 2), [1, 0]), True)
        self.assertIs(bounds_above(RISES, (1, 2), [0, 0]), False)
        self.assertIs(bounds_above(RISES, (1, 1), [0, 0]), True)

    def test_against_the_inequality(self):
        told = {True: 0, False: 0}
        for weight in ((2, 2, [0, 1, 0, 0]), (2, 2, [-1, 2, 1, 0]), (2, 2, [3, -3, 1, 1])):
            for mean in product((-4, -1, 0, 1, 2, 3, 5, 6), (1, 2, 3)):
                for flow in product(range(-3, 4), repeat=2):
                    parts = flow_parts(weight, mean[1], flow)
                    above = bounds_above(weight, mean, list(flow))
                    self.assertIs(above, max(parts) <= mean[0])
                    self.assertIs(bounds_below(weight, mean, list(flow)), min(parts) >= mean[0])
                    told[above] += 1
        self.assertGreater(min(told.values()), 100)

    def test_random_flows(self):
        numbers = Numbers(151)
        for weight in some_weights(157, 60) + some_weights(163, 15, 10 ** 30):
            many = weight[0] ** (weight[1] - 1)
            for reach in (0, 3, 10 ** 30):
                flow = [numbers.below(2 * reach + 1) - reach for _ in range(many)]
                for bottom in (1, 2, 7):
                    parts = flow_parts(weight, bottom, flow)
                    for top in (max(parts), max(parts) - 1, min(parts), min(parts) + 1, 0):
                        self.assertIs(bounds_above(weight, (top, bottom), flow), max(parts) <= top)
                        self.assertIs(bounds_below(weight, (top, bottom), flow), min(parts) >= top)

    def test_each_word_counts(self):
        for signs, span in [(2, 1), (2, 2), (3, 2), (2, 4), (4, 3)]:
            many = signs ** (span - 1)
            for number in range(signs ** span):
                weight = lone(signs, span, number, 1)
                self.assertIs(bounds_above(weight, (0, 1), [0] * many), False)
                self.assertIs(bounds_above(weight, (1, 1), [0] * many), True)
                self.assertIs(bounds_below(negative(weight), (0, 1), [0] * many), False)
                self.assertIs(bounds_below(negative(weight), (-1, 1), [0] * many), True)

    def test_means_with_a_common_divisor(self):
        self.assertIs(bounds_above(RISES, (2, 4), [2, 0]), True)
        self.assertIs(bounds_above(RISES, (2, 4), [1, 0]), False)
        self.assertIs(bounds_above(RISES, (1, 2), [2, 0]), False)
        self.assertIs(bounds_above(RISES, (3, 6), [3, 0]), True)
        self.assertIs(bounds_above(RISES, (0, 9), [0, 0]), False)
        self.assertIs(bounds_below(RISES, (0, 9), [0, 0]), True)
        for weight in some_weights(167, 30):
            for (top, bottom), flow, call in (
                (greatest_mean(weight), top_flow(weight), bounds_above),
                (least_mean(weight), bottom_flow(weight), bounds_below),
            ):
                for times in (1, 2, 6, 10 ** 20):
                    scaled = [times * item for item in flow]
                    self.assertIs(call(weight, (times * top, times * bottom), scaled), True)

    def test_no_flow_bounds_by_less_than_the_greatest_mean(self):
        for weight in some_weights(173, 30):
            for times in (1, 1000):
                top, bottom = greatest_mean(weight)
                flow = [times * item for item in top_flow(weight)]
                self.assertIs(bounds_above(weight, (times * top - 1, times * bottom), flow), False)
                self.assertIs(bounds_above(weight, (times * top + 1, times * bottom), flow), True)
                top, bottom = least_mean(weight)
                flow = [times * item for item in bottom_flow(weight)]
                self.assertIs(bounds_below(weight, (times * top + 1, times * bottom), flow), False)
                self.assertIs(bounds_below(weight, (times * top - 1, times * bottom), flow), True)

    def test_flows_that_differ_by_one_number_bound_alike(self):
        for weight in some_weights(179, 20):
            for gap in (1, -5, GREAT):
                flow = [item + gap for item in top_flow(weight)]
                self.assertIs(bounds_above(weight, greatest_mean(weight), flow), True)

    def test_greatest_weights(self):
        for weight in fulls(181, GREAT) + fulls(191, 5):
            flow, mean = top_flow(weight), greatest_mean(weight)
            self.assertIs(check_fresh(self, bounds_above, weight, mean, flow), True)
            # A word with the greatest mean is not bounded any more, if its flow is one less ahead.
            for at in range(0, len(flow), 50):
                bent = flow[:at] + [flow[at] - 10 ** 45] + flow[at + 1:]
                self.assertIs(bounds_above(weight, mean, bent), False)

    def test_flows_that_are_too_long_or_too_short(self):
        for weight in (ONES, RISES, (3, 2, [0] * 9), (4, 3, [0] * 64), (2, 10, [0] * 1024)):
            many = weight[0] ** (weight[1] - 1)
            for length in range(0, many + 20):
                told = length == many
                self.assertIs(bounds_above(weight, (1, 1), [0] * length), told)
                self.assertIs(bounds_below(weight, (0, 1), [0] * length), told)
            self.assertIs(bounds_above(weight, (1, 1), [0] * len(weight[2])), False)

    def test_items_that_are_no_integers(self):
        for item in NOT_INTEGERS:
            for call, mean in ((bounds_above, (9, 1)), (bounds_below, (-9, 1))):
                self.assertIs(call(RISES, mean, [0, 0]), True)
                self.assertIs(call(RISES, mean, [0, item]), False)
                self.assertIs(call(RISES, mean, [item, 0]), False)
                self.assertIs(call(ONES, mean, [item]), False)

    def test_values_that_are_no_lists(self):
        class Row(list):
            pass

        for value in ODD_VALUES + ((0, 0), (0,), "00", "0", {0: 0, 1: 0}, range(2), b"\x00\x00", Row([0, 0]), Row([0])):
            for weight in (ONES, RISES):
                self.assertIs(bounds_above(weight, (9, 1), value), False)
                self.assertIs(bounds_below(weight, (-9, 1), value), False)

    def test_wrong_arguments(self):
        for call in BOUNDS:
            for value in NOT_WEIGHTS:
                check_raises(self, errors.InvalidWeight, call, value, (0, 1), [0, 0])
                check_raises(self, errors.InvalidWeight, call, value, None, None)
            for value in NOT_MEANS:
                check_raises(self, errors.InvalidMean, call, RISES, value, [0, 0])
                check_raises(self, errors.InvalidMean, call, RISES, value, None)
            check_raises(self, errors.InvalidWeight, call, (2, 1, [0]), (1, 0), [])
            check_raises(self, errors.InvalidMean, call, ONES, (1, 0), [])


if __name__ == "__main__":
    unittest.main()
