import unittest
from collections import Counter
from math import comb

from cellflows import errors
from cellflows.counts import count_rings, counts_by_sum, nth_ring, ring_index
from cellflows.gains import gain, pulled
from cellflows.sizes import greatest_sum, least_sum
from cellflows.weights import added, plain
from tests.reckoning import (
    GREAT, LONGEST_BOUND, NOT_INDICES, NOT_INTEGERS, NOT_RINGS, NOT_WEIGHTS, ONES, RISES, ROAD,
    Numbers, check_fresh, check_raises, largest, negative, of_at_most_sixteen, plain_sum,
    some_weights, words,
)

MOST = 60
FEW = {2: 8, 3: 5, 4: 4}
TOO_LONG = [(signs, span + 1, [0] * signs ** (span + 1)) for signs, span in LONGEST_BOUND.items()]

NOT_CELLS = NOT_INTEGERS + (0, -1, -60, 61, 512, 10 ** 18, 10 ** 39)


def rings_by_sum(weight, cells):
    """For each sum the list of all rings that have it, ascending."""
    found = {}
    for ring in words(weight[0], cells):
        found.setdefault(plain_sum(weight, ring), []).append(ring)
    return found


def counts_step_by_step(weight, cells):
    """The numbers of rings by their sums, by walks from each place, step by step."""
    signs, span, values = weight
    places = signs ** (span - 1)
    found = Counter()
    for start in range(places):
        front = {(start, 0): 1}
        for _ in range(cells):
            later = Counter()
            for (place, total), many in front.items():
                for number in range(place * signs, place * signs + signs):
                    later[(number % places, total + values[number])] += many
            front = later
        for (place, total), many in front.items():
            if place == start:
                found[total] += many
    return sorted(found.items())


def choices(weights, cells):
    """The numbers of rings by their sums for the span 1, by the ways to choose the cells of each sign."""
    found = Counter()

    def choose(at, left, ways, total):
        if at == len(weights) - 1:
            found[total + left * weights[at]] += ways
            return
        for many in range(left + 1):
            choose(at + 1, left - many, ways * comb(left, many), total + many * weights[at])

    choose(0, cells, 1, 0)
    return sorted(found.items())


class TestCountsBySum(unittest.TestCase):

    def test_example(self):
        self.assertEqual(counts_by_sum(RISES, 3), [(0, 2), (1, 6)])

    def test_against_all_rings(self):
        for weight in of_at_most_sixteen(some_weights(401, 45) + some_weights(403, 12, 30)) + largest(405, 30):
            for cells in range(1, FEW[weight[0]] + 1):
                told = check_fresh(self, counts_by_sum, weight, cells)
                rings = rings_by_sum(weight, cells)
                self.assertEqual(told, [(total, len(rings[total])) for total in sorted(rings)])
                self.assertEqual({type(pair) for pair in told}, {tuple})

    def test_one_cell(self):
        for weight in largest(407, 30) + [ONES, RISES, (4, 1, [3, -3, 3, 0])]:
            signs, span, _ = weight
            told = Counter(plain_sum(weight, [sign]) for sign in range(signs))
            self.assertEqual(counts_by_sum(weight, 1), sorted(told.items()))

    def test_the_span_one(self):
        for cells in (1, 2, 17, MOST):
            self.assertEqual(counts_by_sum(ONES, cells), [(many, comb(cells, many)) for many in range(cells + 1)])
            for weight in ((2, 1, [-30, 30]), (2, 1, [7, 4]), (3, 1, [0, 1, 2]), (3, 1, [-30, 30, 1]), (4, 1, [5, -5, 0, 5])):
                self.assertEqual(counts_by_sum(weight, cells), choices(weight[2], cells))

    def test_equal_values(self):
        for signs, span in LONGEST_BOUND.items():
            for value in (0, 30, -30):
                weight = (signs, span, [value] * signs ** span)
                self.assertEqual(counts_by_sum(weight, MOST), [(MOST * value, signs ** MOST)])

    def test_sixty_cells_of_the_largest_weights(self):
        for weight in largest(409, 1):
            told = counts_by_sum(weight, MOST)
            self.assertEqual(told, counts_step_by_step(weight, MOST))
            self.assertEqual(sum(many for _, many in told), weight[0] ** MOST)

    def test_sixty_cells_with_the_greatest_values(self):
        for weight in largest(411, 30):
            told = counts_by_sum(weight, MOST)
            sums = [total for total, _ in told]
            self.assertEqual(sums, sorted(set(sums)))
            self.assertEqual((sums[0], sums[-1]), (least_sum(weight, MOST), greatest_sum(weight, MOST)))
            self.assertGreater(min(many for _, many in told), 0)
            self.assertEqual(sum(many for _, many in told), weight[0] ** MOST)
            total, many = told[len(told) // 3]
            self.assertEqual(count_rings(weight, MOST, total), many)

    def test_rises_in_many_cells(self):
        # A rise and a fall stand at two of the borders each time, in one of two orders.
        for cells in (2, 9, 30, 59, MOST):
            told = [(many, 2 * comb(cells, 2 * many)) for many in range(cells // 2 + 1)]
            self.assertEqual(counts_by_sum(RISES, cells), told)

    def test_weights_that_were_returned(self):
        for weight in (
            gain(ROAD, RISES), pulled(ROAD, RISES), plain((2, 4, [30, -30] * 8)), added(ONES, RISES, 30), negative(RISES),
        ):
            for cells in (1, 2, 7):
                rings = rings_by_sum(weight, cells)
                self.assertEqual(counts_by_sum(weight, cells), [(total, len(rings[total])) for total in sorted(rings)])

    def test_values_that_lie_far_apart(self):
        # They can come from weights that were returned, whatever their size.
        for weight in (added(ONES, RISES, GREAT), (3, 1, [GREAT, 0, -GREAT]), (2, 3, [0, 1, 2, 150, -151, 0, 0, 150])):
            for cells in (1, 2, 5):
                rings = rings_by_sum(weight, cells)
                self.assertEqual(counts_by_sum(weight, cells), [(total, len(rings[total])) for total in sorted(rings)])
        far = added(ONES, RISES, 10 ** 30)
        self.assertEqual(counts_by_sum(far, 20), counts_step_by_step(far, 20))
        self.assertEqual(counts_by_sum((2, 1, [-GREAT, GREAT]), MOST)[1], (-58 * GREAT, 60))

    def test_wrong_arguments(self):
        for value in NOT_WEIGHTS:
            check_raises(self, errors.InvalidWeight, counts_by_sum, value, 3)
            check_raises(self, errors.InvalidWeight, counts_by_sum, value, 0)
        for value in NOT_CELLS:
            check_raises(self, errors.InvalidCells, counts_by_sum, RISES, value)
            check_raises(self, errors.InvalidCells, counts_by_sum, TOO_LONG[0], value)
        for weight in TOO_LONG + [(2, 10, [0] * 1024)]:
            for cells in (1, MOST):
                self.assertEqual(check_raises(self, errors.TooLarge, counts_by_sum, weight, cells).limit, 16)


class TestCountRings(unittest.TestCase):

    def test_example(self):
        self.assertEqual(count_rings(ONES, 60, 30), 118264581564861424)

    def test_against_all_rings(self):
        for weight in of_at_most_sixteen(some_weights(413, 24) + some_weights(415, 6, 30)) + largest(417, 3):
            for cells in range(1, FEW[weight[0]] + 1):
                rings = rings_by_sum(weight, cells)
                for total in list(rings) + list(range(-12, 13)) + [min(rings) - 1, max(rings) + 1, GREAT, -GREAT]:
                    self.assertEqual(count_rings(weight, cells, total), len(rings.get(total, [])))

    def test_sums_that_no_ring_has(self):
        for cells in (1, 2, 31, MOST):
            for total in (-1, cells + 1, 10 ** 20, -GREAT):
                self.assertEqual(count_rings(ONES, cells, total), 0)
            self.assertEqual(count_rings((2, 1, [0, 2]), cells, 1), 0)
            self.assertEqual(count_rings((2, 1, [-30, 30]), cells, 60 * cells), 0)
            self.assertEqual(count_rings((2, 1, [-30, -30]), cells, 0), 0)

    def test_sixty_cells(self):
        for weight in largest(419, 1):
            counts = dict(counts_by_sum(weight, MOST - 1))
            for total in list(range(min(counts) - 1, max(counts) + 2, 9)) + [max(counts) + 1]:
                self.assertEqual(count_rings(weight, MOST - 1, total), counts.get(total, 0))
        for many in range(MOST + 1):
            self.assertEqual(count_rings((3, 1, [0, 0, 1]), MOST, many), comb(MOST, many) * 2 ** (MOST - many))

    def test_values_that_lie_far_apart(self):
        weight = (2, 2, [0, GREAT, 1, -5])
        rings = rings_by_sum(weight, 6)
        for total in list(rings) + [0, 1, GREAT + 5]:
            self.assertEqual(count_rings(weight, 6, total), len(rings.get(total, [])))

    def test_arguments_stay(self):
        for weight in largest(421, 3):
            check_fresh(self, count_rings, weight, 9, 2)

    def test_wrong_arguments(self):
        for value in NOT_WEIGHTS:
            check_raises(self, errors.InvalidWeight, count_rings, value, 3, 1)
            check_raises(self, errors.InvalidWeight, count_rings, value, None, None)
        for value in NOT_CELLS:
            check_raises(self, errors.InvalidCells, count_rings, RISES, value, 1)
            check_raises(self, errors.InvalidCells, count_rings, TOO_LONG[1], value, None)
        for value in NOT_INTEGERS:
            check_raises(self, errors.InvalidTotal, count_rings, RISES, 3, value)
            check_raises(self, errors.InvalidTotal, count_rings, TOO_LONG[2], 3, value)
        for weight in TOO_LONG:
            self.assertEqual(check_raises(self, errors.TooLarge, count_rings, weight, 3, 0).limit, 16)
            check_raises(self, errors.TooLarge, count_rings, weight, 60, GREAT)


class TestNthRing(unittest.TestCase):

    def test_example(self):
        self.assertEqual(nth_ring(RISES, 3, 1, 0), [0, 0, 1])

    def test_against_all_rings(self):
        for weight in of_at_most_sixteen(some_weights(423, 24)) + largest(425, 2):
            for cells in range(1, FEW[weight[0]]):
                for total, rings in rings_by_sum(weight, cells).items():
                    for index, ring in list(enumerate(rings))[::1 + len(rings) // 9]:
                        self.assertEqual(nth_ring(weight, cells, total, index), ring)
                    self.assertEqual(nth_ring(weight, cells, total, len(rings) - 1), rings[-1])
                    check_raises(self, errors.InvalidIndex, nth_ring, weight, cells, total, len(rings))

    def test_results_are_new(self):
        for weight in largest(427, 1):
            total = plain_sum(weight, [1, 0, 1, 1, 0])
            check_fresh(self, nth_ring, weight, 5, total, 0)

    def test_sixty_cells_of_the_span_one(self):
        self.assertEqual(nth_ring(ONES, MOST, 30, 0), [0] * 30 + [1] * 30)
        self.assertEqual(nth_ring(ONES, MOST, 30, comb(60, 30) - 1), [1] * 30 + [0] * 30)
        self.assertEqual(nth_ring(ONES, MOST, 1, 41), [0] * 18 + [1] + [0] * 41)
        # Those that begin with 0 come first.
        self.assertEqual(nth_ring(ONES, MOST, 30, comb(59, 30)), [1] + [0] * 30 + [1] * 29)

    def test_the_way_there_and_back(self):
        numbers = Numbers(429)
        for weight in largest(431, 2) + largest(433, 30)[:2] + [(4, 1, [-30, 30, 1, 0]), RISES]:
            for cells in (MOST, 41):
                ring = numbers.signs(weight[0], cells)
                total = plain_sum(weight, ring)
                index = ring_index(weight, ring)
                self.assertEqual(nth_ring(weight, cells, total, index), ring)
                many = count_rings(weight, cells, total)
                self.assertLess(index, many)
                check_raises(self, errors.InvalidIndex, nth_ring, weight, cells, total, many)

    def test_ascending(self):
        for weight in largest(435, 2):
            total = plain_sum(weight, Numbers(437).signs(weight[0], 30))
            many = count_rings(weight, 30, total)
            rings = [nth_ring(weight, 30, total, many * at // 7) for at in range(7)] + [nth_ring(weight, 30, total, many - 1)]
            for ring, later in zip(rings, rings[1:]):
                self.assertLess(ring, later)
            for ring in rings:
                self.assertEqual((len(ring), plain_sum(weight, ring)), (30, total))

    def test_values_that_lie_far_apart(self):
        weight = (2, 3, [0, GREAT, 1, -5, GREAT, 0, 0, -GREAT])
        for total, rings in rings_by_sum(weight, 6).items():
            for index, ring in enumerate(rings):
                self.assertEqual(nth_ring(weight, 6, total, index), ring)
                self.assertEqual(ring_index(weight, ring), index)

    def test_indices_that_are_too_great(self):
        for total in (-1, 4, GREAT):
            for index in (0, 1, GREAT):
                check_raises(self, errors.InvalidIndex, nth_ring, ONES, 3, total, index)
        check_raises(self, errors.InvalidIndex, nth_ring, ONES, 3, 1, 3)
        check_raises(self, errors.InvalidIndex, nth_ring, ONES, 60, 30, comb(60, 30))

    def test_wrong_arguments(self):
        for value in NOT_WEIGHTS:
            check_raises(self, errors.InvalidWeight, nth_ring, value, 3, 1, 0)
            check_raises(self, errors.InvalidWeight, nth_ring, value, None, None, None)
        for value in NOT_CELLS:
            check_raises(self, errors.InvalidCells, nth_ring, RISES, value, 1, 0)
            check_raises(self, errors.InvalidCells, nth_ring, TOO_LONG[0], value, None, None)
        for value in NOT_INTEGERS:
            check_raises(self, errors.InvalidTotal, nth_ring, RISES, 3, value, 0)
            check_raises(self, errors.InvalidTotal, nth_ring, TOO_LONG[0], 3, value, -1)
        for value in NOT_INDICES:
            check_raises(self, errors.InvalidIndex, nth_ring, RISES, 3, 1, value)
            check_raises(self, errors.InvalidIndex, nth_ring, TOO_LONG[0], 3, 1, value)
        for weight in TOO_LONG:
            # What tells that an index is too great comes behind all other errors.
            for index in (0, GREAT):
                self.assertEqual(check_raises(self, errors.TooLarge, nth_ring, weight, 3, 0, index).limit, 16)


class TestRingIndex(unittest.TestCase):

    def test_example(self):
        self.assertEqual(ring_index(RISES, [1, 1, 0]), 5)

    def test_against_all_rings(self):
        for weight in of_at_most_sixteen(some_weights(439, 24)) + largest(441, 2):
            for cells in range(1, FEW[weight[0]]):
                for rings in rings_by_sum(weight, cells).values():
                    for index, ring in list(enumerate(rings))[::1 + len(rings) // 9]:
                        self.assertEqual(ring_index(weight, ring), index)
                    self.assertEqual(ring_index(weight, rings[-1]), len(rings) - 1)

    def test_sixty_cells(self):
        self.assertEqual(ring_index(ONES, [0] * 30 + [1] * 30), 0)
        self.assertEqual(ring_index(ONES, [1] * 30 + [0] * 30), comb(60, 30) - 1)
        self.assertEqual(ring_index((4, 1, [0] * 4), [3] * MOST), 4 ** MOST - 1)
        for signs, span in LONGEST_BOUND.items():
            # If all rings have one sum, the index is the number of the ring as a word.
            ring = Numbers(443).signs(signs, MOST)
            self.assertEqual(ring_index((signs, span, [7] * signs ** span), ring), int("".join(map(str, ring)), signs))

    def test_arguments_stay(self):
        for weight in largest(445, 3):
            check_fresh(self, ring_index, weight, [1, 0, 1, 1])

    def test_too_large(self):
        for cells in (61, 62, 100, 512):
            for weight in largest(447, 1):
                self.assertEqual(check_raises(self, errors.TooLarge, ring_index, weight, [1] * cells).limit, 60)
            for weight in TOO_LONG:
                self.assertEqual(check_raises(self, errors.TooLarge, ring_index, weight, [1] * cells).limit, 16)
        for weight in TOO_LONG:
            self.assertEqual(check_raises(self, errors.TooLarge, ring_index, weight, [0, 1]).limit, 16)

    def test_wrong_arguments(self):
        for value in NOT_WEIGHTS:
            check_raises(self, errors.InvalidWeight, ring_index, value, [0, 1])
            check_raises(self, errors.InvalidWeight, ring_index, value, None)
        for value in NOT_RINGS:
            check_raises(self, errors.InvalidRing, ring_index, RISES, value)
            check_raises(self, errors.InvalidRing, ring_index, TOO_LONG[0], value)
        check_raises(self, errors.InvalidRing, ring_index, (3, 1, [0, 0, 1]), [0, 3])


if __name__ == "__main__":
    unittest.main()
