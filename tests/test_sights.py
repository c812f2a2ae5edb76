import unittest
from itertools import combinations

from cellflows import errors
from cellflows.gains import pulled
from cellflows.rules import ticked
from cellflows.sights import count_fits, excluding, nth_fit, observed, sure_bounds
from tests.reckoning import (
    GREAT, NOT_INDICES, NOT_INTEGERS, NOT_PAIRS, NOT_RULES, NOT_TOTALS, NOT_WEIGHTS, ONES, RISES, ROAD,
    SHIFT, SPREAD, Numbers, check_fresh, check_raises, fulls, lists_in, plain_sum, plain_ticks,
    some_rules, some_weights, words,
)

FEW = {2: 7, 3: 4, 4: 3}
MOST = {2: 12, 3: 8, 4: 8}
THREES = (3, 1, [0, 1, 2])

NOT_CELLS = NOT_INTEGERS + (0, -1, -12, 13, 14, 60, 10 ** 39)


def fits_of(pairs, cells):
    """All rings of so many cells that fit, ascending."""
    return [
        ring for ring in words(pairs[0][0][0], cells)
        if all(plain_sum(weight, ring) == total for weight, total in pairs)
    ]


def some_pairs(seed, many):
    """Sights of one to four pairs, some of which a ring fits."""
    numbers = Numbers(seed)
    weights = {signs: [weight for weight in some_weights(seed + 1, 60, 2) if weight[0] == signs] for signs in FEW}
    found = []
    for at in range(many):
        signs = 2 + at % 3
        some = [weights[signs][numbers.below(len(weights[signs]))] for _ in range(1 + at // 3 % 4)]
        ring = numbers.signs(signs, 1 + numbers.below(FEW[signs]))
        totals = [plain_sum(weight, ring) + (numbers.below(8) == 0) for weight in some]
        found.append((list(zip(some, totals)), len(ring)))
    return found


class TestObserved(unittest.TestCase):

    def test_example(self):
        self.assertEqual(observed(SPREAD, ONES, [2, 3]), [((2, 1, [0, 1]), 2), ((2, 2, [0, 1, 1, 1]), 3)])

    def test_one_to_four_totals(self):
        for totals in ([7], [7, -3], [0, 0, 0], [1, 2, 3, GREAT]):
            for rule, weight in ((ROAD, ONES), (SPREAD, RISES), ((3, 50, 2, [0, 1, 2] * 3), THREES)):
                told = check_fresh(self, observed, rule, weight, totals)
                self.assertEqual([total for _, total in told], totals)
                self.assertEqual({type(pair) for pair in told}, {tuple})
                self.assertEqual(told[0][0], weight)
                for (one, _), (later, _) in zip(told, told[1:]):
                    self.assertEqual(later, pulled(rule, one))

    def test_rings_fit_what_was_observed_of_them(self):
        for rule in some_rules(501, 24):
            if rule[0] ** (1 + 3 * (rule[2] - 1)) > 1024:
                continue
            weight = (rule[0], 1, list(range(3, 3 + rule[0])))
            for ring in words(rule[0], 4):
                totals = [plain_sum(weight, plain_ticks(rule, ring, ticks)) for ticks in range(4)]
                for one, total in observed(rule, weight, totals):
                    self.assertEqual(plain_sum(one, ring), total)

    def test_too_large(self):
        # The width 3 makes spans of 1, 3, 5 and 7 signs; further ones are not asked for.
        self.assertEqual(observed(ROAD, ONES, [0] * 4)[3][0][1], 7)
        for rule, weight, most in (
            (ROAD, (2, 7, [0] * 128), 2), (ROAD, (2, 10, [0] * 1024), 1), ((2, 0, 10, [0] * 1024), ONES, 2),
            ((3, 0, 3, [0] * 27), THREES, 3), ((4, 0, 2, [0] * 16), (4, 3, [0] * 64), 3), ((2, -100, 4, [0] * 16), ONES, 4),
        ):
            for many in range(1, 5):
                if many <= most:
                    self.assertEqual(len(observed(rule, weight, [0] * many)), many)
                else:
                    self.assertEqual(check_raises(self, errors.TooLarge, observed, rule, weight, [0] * many).limit, 1024)

    def test_far_rules_are_not_too_large(self):
        for first in (-100, 98):
            self.assertEqual(observed((2, first) + ROAD[2:], ONES, [0] * 4), observed(ROAD, ONES, [0] * 4))

    def test_wrong_arguments(self):
        for value in NOT_RULES:
            check_raises(self, errors.InvalidRule, observed, value, ONES, [1])
            check_raises(self, errors.InvalidRule, observed, value, None, None)
        for value in NOT_WEIGHTS:
            check_raises(self, errors.InvalidWeight, observed, ROAD, value, [1])
            check_raises(self, errors.InvalidWeight, observed, ROAD, value, None)
        for value in NOT_TOTALS:
            check_raises(self, errors.InvalidTotal, observed, ROAD, ONES, value)
            check_raises(self, errors.InvalidTotal, observed, ROAD, THREES, value)
        check_raises(self, errors.UnlikeSigns, observed, ROAD, THREES, [1])
        check_raises(self, errors.UnlikeSigns, observed, (2, 0, 10, [0] * 1024), (4, 5, [0] * 1024), [1, 2])


class TestCountFits(unittest.TestCase):

    def test_example(self):
        self.assertEqual(count_fits(observed(SPREAD, ONES, [2, 3]), 5), 5)

    def test_against_all_rings(self):
        counts = []
        for pairs, cells in some_pairs(503, 150):
            told = check_fresh(self, count_fits, pairs, cells)
            self.assertEqual(told, len(fits_of(pairs, cells)))
            counts.append(told)
        self.assertIn(0, counts)
        self.assertGreater(max(counts), 3)

    def test_each_number_of_cells(self):
        for weight in (ONES, RISES, (2, 4, list(range(16))), THREES, (3, 2, [1, 0, 0, 0, 1, 0, 0, 0, 1]), (4, 2, [0, 1] * 8)):
            for cells in range(1, MOST[weight[0]] - 1):
                for total in (0, 1, 2, 5):
                    self.assertEqual(count_fits([(weight, total)], cells), len(fits_of([(weight, total)], cells)))

    def test_the_greatest_numbers_of_cells(self):
        for weight, total in ((ONES, 6), ((2, 6, [0] * 60 + [1] * 4), 3), (THREES, 8), ((4, 1, [0, 1, 2, 3]), 13), ((4, 2, [1, 0] * 8), 4)):
            pairs = [(weight, total), (weight, total)]
            cells = MOST[weight[0]]
            self.assertEqual(count_fits(pairs, cells), len(fits_of(pairs, cells)))

    def test_words_longer_than_the_ring(self):
        for weight in fulls(505, 2):
            for cells in range(1, FEW[weight[0]]):
                sums = [plain_sum(weight, ring) for ring in words(weight[0], cells)]
                for total in sorted(set(sums)) + [10 ** 6]:
                    self.assertEqual(count_fits([(weight, total)], cells), sums.count(total))

    def test_great_values(self):
        for weight in fulls(507, GREAT) + [(2, 1, [-GREAT, GREAT]), (3, 1, [GREAT, GREAT, 0])]:
            ring = Numbers(509).signs(weight[0], 5)
            pairs = [(weight, plain_sum(weight, ring))]
            self.assertEqual(count_fits(pairs, 5), len(fits_of(pairs, 5)))
            self.assertEqual(count_fits([(weight, plain_sum(weight, ring) + 11 * GREAT)], 5), 0)

    def test_a_pair_told_twice(self):
        for many in (1, 2, 3, 4):
            self.assertEqual(count_fits([(ONES, 2)] * many, 5), 10)
        self.assertEqual(count_fits([(ONES, 2), (ONES, 3)], 5), 0)

    def test_wrong_arguments(self):
        for value in NOT_PAIRS:
            check_raises(self, errors.InvalidPairs, count_fits, value, 3)
            check_raises(self, errors.InvalidPairs, count_fits, value, None)
        for value in NOT_CELLS:
            check_raises(self, errors.InvalidCells, count_fits, [(ONES, 2)], value)


class TestNthFit(unittest.TestCase):

    def test_example(self):
        self.assertEqual(nth_fit(observed(SPREAD, ONES, [2, 3]), 5, 0), [0, 0, 0, 1, 1])

    def test_against_all_rings(self):
        for pairs, cells in some_pairs(511, 90):
            rings = fits_of(pairs, cells)
            told = [check_fresh(self, nth_fit, pairs, cells, index) for index in range(len(rings))]
            self.assertEqual(told, rings)
            for index in (len(rings), len(rings) + 1, GREAT):
                check_raises(self, errors.InvalidIndex, nth_fit, pairs, cells, index)

    def test_the_greatest_numbers_of_cells(self):
        for weight, total in ((ONES, 6), ((3, 1, [0, 1, 2]), 8), ((4, 2, [1, 0] * 8), 4)):
            rings = fits_of([(weight, total)], MOST[weight[0]])
            for index in range(0, len(rings), 1 + len(rings) // 5):
                self.assertEqual(nth_fit([(weight, total)], MOST[weight[0]], index), rings[index])

    def test_wrong_arguments(self):
        for value in NOT_PAIRS:
            check_raises(self, errors.InvalidPairs, nth_fit, value, 3, 0)
            check_raises(self, errors.InvalidPairs, nth_fit, value, None, None)
        for value in NOT_CELLS:
            check_raises(self, errors.InvalidCells, nth_fit, [(ONES, 2)], value, 0)
            check_raises(self, errors.InvalidCells, nth_fit, [(ONES, 2)], value, None)
        for value in NOT_INDICES:
            check_raises(self, errors.InvalidIndex, nth_fit, [(ONES, 2)], 3, value)
        check_raises(self, errors.InvalidIndex, nth_fit, [(ONES, 2)], 3, 3)
        check_raises(self, errors.InvalidIndex, nth_fit, [(ONES, 4)], 3, 0)


class TestSureBounds(unittest.TestCase):

    def test_example(self):
        self.assertEqual(sure_bounds([(ONES, 2)], RISES, 5), (1, 2))

    def test_against_all_rings(self):
        tried = {True: 0, False: 0}
        asked = {signs: [weight for weight in some_weights(513, 40) if weight[0] == signs] for signs in FEW}
        for at, (pairs, cells) in enumerate(some_pairs(515, 150)):
            some = asked[pairs[0][0][0]]
            weight = some[at % len(some)]
            sums = [plain_sum(weight, ring) for ring in fits_of(pairs, cells)]
            tried[bool(sums)] += 1
            if sums:
                told = check_fresh(self, sure_bounds, pairs, weight, cells)
                self.assertIs(type(told), tuple)
                self.assertEqual(told, (min(sums), max(sums)))
            else:
                check_raises(self, errors.NotFitting, sure_bounds, pairs, weight, cells)
        self.assertGreater(min(tried.values()), 10)

    def test_what_is_sure(self):
        self.assertEqual(sure_bounds([(ONES, 5)], ONES, 12), (5, 5))
        self.assertEqual(sure_bounds([(ONES, 6)], RISES, 12), (1, 6))
        self.assertEqual(sure_bounds([(ONES, 12)], RISES, 12), (0, 0))
        self.assertEqual(sure_bounds([((4, 1, [0, 0, 0, 0]), 0)], (4, 1, [-GREAT, 0, 0, GREAT]), 8), (-8 * GREAT, 8 * GREAT))
        for weight in fulls(517, 3):
            ring = Numbers(519).signs(weight[0], 4)
            total = plain_sum(weight, ring)
            self.assertEqual(sure_bounds([(weight, total)], weight, 4), (total, total))

    def test_wrong_arguments(self):
        for value in NOT_PAIRS:
            check_raises(self, errors.InvalidPairs, sure_bounds, value, RISES, 5)
            check_raises(self, errors.InvalidPairs, sure_bounds, value, None, None)
        for value in NOT_WEIGHTS:
            check_raises(self, errors.InvalidWeight, sure_bounds, [(ONES, 2)], value, 5)
            check_raises(self, errors.InvalidWeight, sure_bounds, [(ONES, 2)], value, None)
        for value in NOT_CELLS:
            check_raises(self, errors.InvalidCells, sure_bounds, [(ONES, 2)], RISES, value)
            check_raises(self, errors.InvalidCells, sure_bounds, [(ONES, 2)], THREES, value)
        for pairs in ([(ONES, 2)], [(ONES, 9)]):
            check_raises(self, errors.UnlikeSigns, sure_bounds, pairs, THREES, 5)
        for pairs in ([(ONES, 6)], [(ONES, -1)], [(ONES, 1), (RISES, 2)], [(ONES, 2), (RISES, 1), (ONES, 3)]):
            check_raises(self, errors.NotFitting, sure_bounds, pairs, RISES, 5)


class TestExcluding(unittest.TestCase):

    def check_excluding(self, pairs, cells):
        told = check_fresh(self, excluding, pairs, cells)
        if fits_of(pairs, cells):
            self.assertIsNone(told)
            return 0
        self.assertIs(type(told), list)
        self.assertEqual(told, sorted(set(told)))
        self.assertLessEqual(set(told), set(range(len(pairs))))
        self.assertEqual(fits_of([pairs[index] for index in told], cells), [])
        for some in combinations(told, len(told) - 1):
            self.assertTrue(not some or fits_of([pairs[index] for index in some], cells))
        return len(told)

    def test_example(self):
        self.assertEqual(excluding([(ONES, 2), (RISES, 3)], 5), [1])

    def test_against_all_rings(self):
        sizes = [self.check_excluding(pairs, cells) for pairs, cells in some_pairs(521, 240)]
        self.assertEqual(set(sizes) & {0, 1, 2}, {0, 1, 2})

    def test_some_ring_fits(self):
        for pairs in ([(ONES, 2)], [(ONES, 2), (RISES, 1)], [(ONES, 2)] * 4, observed(SPREAD, ONES, [2, 3, 4, 5])):
            self.assertIsNone(excluding(pairs, 5))

    def test_one_pair_alone(self):
        self.assertEqual(excluding([(ONES, 6)], 5), [0])
        self.assertEqual(excluding([(ONES, 2), (ONES, 2), (ONES, 6)], 5), [2])
        self.assertEqual(excluding([(ONES, -1), (ONES, 2), (RISES, 1), (ONES, 2)], 5), [0])
        self.assertIn(excluding([(ONES, 6), (ONES, 7)], 5), ([0], [1]))

    def test_several_pairs(self):
        self.assertEqual(excluding([(ONES, 2), (ONES, 3)], 5), [0, 1])
        self.assertEqual(excluding([(RISES, 1), (ONES, 2), (RISES, 1), (ONES, 3)], 5), [1, 3])
        self.assertIn(excluding([(ONES, 2), (ONES, 3), (ONES, 4)], 5), ([0, 1], [0, 2], [1, 2]))
        self.assertIn(excluding([(ONES, 2), (ONES, 2), (ONES, 3), (ONES, 3)], 5), ([0, 2], [0, 3], [1, 2], [1, 3]))

    def test_none_can_be_left_out(self):
        # Each pair asks for a cell with a sign of its own.
        each = [(4, 1, [0, 1, 0, 0]), (4, 1, [0, 0, 1, 0]), (4, 1, [0, 0, 0, 1])]
        pairs = [(weight, 1) for weight in each] + [((4, 1, [1, 0, 0, 0]), 1)]
        self.assertEqual(excluding(pairs, 3), [0, 1, 2, 3])
        self.assertIsNone(excluding(pairs, 4))
        self.assertIn(excluding([pairs[0], pairs[0], pairs[2], pairs[3]], 2), ([0, 2, 3], [1, 2, 3]))

    def test_the_greatest_numbers_of_cells(self):
        self.check_excluding([(ONES, 6), (RISES, 6), ((2, 3, [0, 0, 0, 0, 0, 0, 0, 1]), 1)], 12)
        self.check_excluding([((4, 1, [0, 1, 2, 3]), 20), ((4, 1, [0, 1, 1, 1]), 7), ((4, 1, [0, 0, 0, 1]), 1)], 8)

    def test_wrong_arguments(self):
        for value in NOT_PAIRS:
            check_raises(self, errors.InvalidPairs, excluding, value, 3)
            check_raises(self, errors.InvalidPairs, excluding, value, None)
        for value in NOT_CELLS:
            check_raises(self, errors.InvalidCells, excluding, [(ONES, 2)], value)


class TestSights(unittest.TestCase):

    def test_what_a_ring_shows_at_four_ticks(self):
        ring = [1, 0, 0, 1, 1, 0, 1, 0, 0, 0, 1, 0]
        totals = [plain_sum(RISES, plain_ticks(ROAD, ring, ticks)) for ticks in range(4)]
        pairs = observed(ROAD, RISES, totals)
        rings = [nth_fit(pairs, 12, index) for index in range(count_fits(pairs, 12))]
        self.assertIn(ring, rings)
        for one in rings[::20]:
            self.assertEqual([plain_sum(RISES, ticked(ROAD, one, ticks)) for ticks in range(4)], totals)
        marks = [sum(one) for one in rings]
        self.assertEqual(sure_bounds(pairs, ONES, 12), (min(marks), max(marks)))

    def test_no_two_places_of_a_result_have_one_list(self):
        for rule in (SHIFT, (2, 0, 1, [0, 1])):
            told = observed(rule, ONES, [1, 1, 1, 1])
            own = [id(one) for one in lists_in(told)]
            self.assertEqual(len(own), len(set(own)))


if __name__ == "__main__":
    unittest.main()
