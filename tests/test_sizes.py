import unittest
from fractions import Fraction

from cellflows import errors
from cellflows.means import greatest_mean, least_mean, top_ring
from cellflows.rules import is_ring
from cellflows.sizes import greatest_ring, greatest_sum, least_sum, reaches_top
from tests.reckoning import (
    GREAT, LONGEST_BOUND, NOT_INTEGERS, NOT_WEIGHTS, ONES, RISES, check_fresh, check_raises, largest,
    negative, of_at_most_sixteen, plain_sum, some_weights, words,
)

FAR = 10 ** 18
OVER_CELLS = (greatest_sum, least_sum, reaches_top)

THIRDS = (2, 3, [0, 0, 0, 1, 0, 0, 0, 0])


def sums_of_sizes(weight, cells):
    """The greatest sum of the rings of 1 cell, of 2 cells and so on, step by step from each place."""
    signs, span, values = weight
    places = signs ** (span - 1)
    best = [None] * cells
    for start in range(places):
        sums = {start: 0}
        for at in range(cells):
            later = {}
            for place, total in sums.items():
                for sign in range(signs):
                    number = place * signs + sign
                    reached = total + values[number]
                    if number % places not in later or later[number % places] < reached:
                        later[number % places] = reached
            sums = later
            if start in sums and (best[at] is None or best[at] < sums[start]):
                best[at] = sums[start]
    return best


class TestSums(unittest.TestCase):

    def test_examples(self):
        self.assertEqual(greatest_sum(RISES, 5), 2)
        self.assertEqual(greatest_sum(RISES, FAR), 500000000000000000)
        self.assertEqual(least_sum(RISES, 7), 0)

    def test_against_all_rings(self):
        for weight in of_at_most_sixteen(some_weights(301, 60) + some_weights(303, 20, 10 ** 39)):
            for cells in range(1, {2: 10, 3: 6, 4: 5}[weight[0]]):
                sums = [plain_sum(weight, ring) for ring in words(weight[0], cells)]
                self.assertEqual(check_fresh(self, greatest_sum, weight, cells), max(sums))
                self.assertEqual(check_fresh(self, least_sum, weight, cells), min(sums))

    def test_one_cell(self):
        for weight in largest(307, 50) + largest(311, GREAT) + [ONES, RISES, (3, 1, [4, -9, 4])]:
            signs, span, values = weight
            alike = [values[sign * (len(values) - 1) // (signs - 1)] for sign in range(signs)]
            self.assertEqual(greatest_sum(weight, 1), max(alike))
            self.assertEqual(least_sum(weight, 1), min(alike))

    def test_some_hundred_cells(self):
        for weight in largest(313, 9) + largest(317, GREAT) + [THIRDS]:
            tops, bottoms = sums_of_sizes(weight, 130), sums_of_sizes(negative(weight), 130)
            for cells in (1, 2, 3, 4, 5, 7, 8, 12, 31, 32, 33, 63, 64, 100, 127, 128, 129, 130):
                self.assertEqual(greatest_sum(weight, cells), tops[cells - 1])
                self.assertEqual(least_sum(weight, cells), -bottoms[cells - 1])

    def test_far_sizes_by_hand(self):
        for cells in (FAR, FAR - 1, FAR - 2, FAR - 3, FAR - 4, 10 ** 17 + 3):
            self.assertEqual(greatest_sum(RISES, cells), cells // 2)
            self.assertEqual(least_sum(RISES, cells), 0)
            self.assertEqual(greatest_sum(THIRDS, cells), cells // 3)
            self.assertEqual(least_sum(negative(THIRDS), cells), -(cells // 3))
            self.assertEqual(greatest_sum(ONES, cells), cells)
            self.assertEqual(least_sum((4, 1, [3, -GREAT, 0, 5]), cells), -GREAT * cells)
            self.assertEqual(greatest_sum((2, 5, [-7] * 32), cells), -7 * cells)
            self.assertEqual(least_sum((4, 3, [0] * 64), cells), 0)
            # Only cells that change their signs count, and they are an even number.
            self.assertEqual(greatest_sum((2, 2, [0, 1, 1, 0]), cells), cells - cells % 2)
            self.assertEqual(greatest_sum((2, 2, [-5, 1, 1, -8]), cells), cells - cells % 2 - 5 * (cells % 2))
            # The signs go round from 0 to 2, so who does not come out even has to step back, once or twice.
            around = (3, 2, [-1, 1, 0, 0, -1, 1, 1, 0, -1])
            self.assertEqual(greatest_sum(around, cells), cells - (0, 2, 1)[cells % 3])

    def test_far_sizes_from_near_ones(self):
        # With at most four places the rings with the greatest sums come to grow by the mean soon.
        for weight in of_at_most_sixteen(some_weights(331, 60)):
            if weight[0] ** (weight[1] - 1) > 4:
                continue
            mean, low_mean = Fraction(*greatest_mean(weight)), Fraction(*least_mean(weight))
            tops, bottoms = sums_of_sizes(weight, 252), sums_of_sizes(negative(weight), 252)
            for cells in (FAR, FAR - 5, FAR - 11, 10 ** 12 + 7):
                near = 240 + cells % 12
                self.assertEqual(greatest_sum(weight, cells), tops[near - 1] + (cells - near) * mean)
                self.assertEqual(least_sum(weight, cells), -bottoms[near - 1] + (cells - near) * low_mean)

    def test_far_sizes_of_the_largest_weights(self):
        # 720720 is divided by each number up to 16, so by the cells of a ring with the greatest mean.
        for weight in largest(337, 9) + largest(347, GREAT):
            top, bottom = greatest_mean(weight)
            for cells in (FAR, FAR - 1, FAR - 12345):
                told = greatest_sum(weight, cells)
                self.assertLessEqual(told * bottom, top * cells)
                self.assertEqual(told, greatest_sum(weight, cells - 720720) + 720720 // bottom * top)
                self.assertEqual(least_sum(negative(weight), cells), -told)

    def test_rings_one_behind_the_other(self):
        for weight in largest(349, 20):
            ring = top_ring(weight)
            times = FAR // len(ring)
            self.assertEqual(greatest_sum(weight, times * len(ring)), times * plain_sum(weight, ring))

    def test_wrong_arguments(self):
        for call in OVER_CELLS + (greatest_ring,):
            most = 512 if call is greatest_ring else FAR
            for value in NOT_WEIGHTS:
                check_raises(self, errors.InvalidWeight, call, value, 3)
                check_raises(self, errors.InvalidWeight, call, value, None)
            for value in NOT_INTEGERS + (0, -1, -FAR, most + 1, 10 ** 39):
                check_raises(self, errors.InvalidCells, call, RISES, value)
                check_raises(self, errors.InvalidCells, call, (2, 10, [0] * 1024), value)
            call(RISES, most)

    def test_too_large(self):
        for call in OVER_CELLS + (greatest_ring,):
            for signs, span in ((2, 6), (2, 10), (3, 4), (3, 6), (4, 4), (4, 5)):
                for cells in (1, 20, 512):
                    error = check_raises(self, errors.TooLarge, call, (signs, span, [0] * signs ** span), cells)
                    self.assertEqual(error.limit, 16)
            for signs, span in LONGEST_BOUND.items():
                call((signs, span, [0] * signs ** span), 20)


class TestGreatestRing(unittest.TestCase):

    def check_ring(self, weight, cells, best):
        ring = check_fresh(self, greatest_ring, weight, cells)
        self.assertIs(is_ring(weight[0], ring), True)
        self.assertEqual(len(ring), cells)
        self.assertEqual(plain_sum(weight, ring), best)

    def test_example(self):
        self.assertEqual(plain_sum(RISES, greatest_ring(RISES, 9)), 4)

    def test_against_all_rings(self):
        for weight in of_at_most_sixteen(some_weights(353, 60) + some_weights(359, 20, 10 ** 39)):
            for cells in range(1, {2: 10, 3: 6, 4: 5}[weight[0]]):
                best = max(plain_sum(weight, ring) for ring in words(weight[0], cells))
                self.check_ring(weight, cells, best)

    def test_up_to_the_greatest_rings(self):
        for weight in largest(367, 9) + largest(373, GREAT) + [THIRDS, RISES, (2, 2, [-5, 1, 1, -8])]:
            best = sums_of_sizes(weight, 512)
            for cells in (1, 2, 3, 6, 17, 100, 301, 511, 512):
                self.check_ring(weight, cells, best[cells - 1])

    def test_the_only_greatest_ring(self):
        self.assertEqual(greatest_ring(ONES, 5), [1] * 5)
        self.assertEqual(greatest_ring((4, 1, [0, 7, 9, 8]), 3), [2] * 3)
        self.assertEqual(greatest_ring((2, 5, list(range(32))), 512), [1] * 512)
        self.assertEqual(greatest_ring((2, 5, list(range(32, 0, -1))), 512), [0] * 512)
        ring = greatest_ring((3, 3, [1 if at in (5, 15, 19) else 0 for at in range(27)]), 30)
        self.assertIn(ring, [[0, 1, 2] * 10, [1, 2, 0] * 10, [2, 0, 1] * 10])

    def test_equal_values(self):
        for value in (0, 5, -5, -GREAT):
            for signs, span in ((2, 1), (2, 5), (3, 3), (4, 3)):
                self.check_ring((signs, span, [value] * signs ** span), 40, 40 * value)

    def test_rings_shorter_than_the_words(self):
        for weight in largest(379, 100):
            for cells in range(1, weight[1] + 1):
                best = max(plain_sum(weight, ring) for ring in words(weight[0], cells))
                self.check_ring(weight, cells, best)


class TestReachesTop(unittest.TestCase):

    def test_example(self):
        self.assertIs(reaches_top(RISES, FAR - 1), False)
        self.assertIs(reaches_top(RISES, FAR), True)

    def test_against_all_rings(self):
        told = {True: 0, False: 0}
        for weight in of_at_most_sixteen(some_weights(383, 60) + some_weights(389, 30, 1)):
            mean = Fraction(*greatest_mean(weight))
            for cells in range(1, {2: 10, 3: 6, 4: 5}[weight[0]]):
                best = max(plain_sum(weight, ring) for ring in words(weight[0], cells))
                reached = check_fresh(self, reaches_top, weight, cells)
                self.assertIs(reached, best == mean * cells)
                told[reached] += 1
        self.assertGreater(min(told.values()), 50)

    def test_some_hundred_cells(self):
        for weight in largest(397, 3) + largest(401, 10 ** 30) + [THIRDS]:
            mean = Fraction(*greatest_mean(weight))
            for at, best in enumerate(sums_of_sizes(weight, 70)):
                self.assertIs(reaches_top(weight, at + 1), best == mean * (at + 1))

    def test_one_ring_alone_has_the_mean(self):
        for weight, many in ((RISES, 2), (THIRDS, 3), ((2, 5, [0] * 3 + [1] + [0] * 28), 5), (ONES, 1)):
            for cells in list(range(1, 20)) + list(range(FAR - 20, FAR + 1)):
                self.assertIs(reaches_top(weight, cells), cells % many == 0)

    def test_two_rings_that_have_the_mean(self):
        # No word of the ring 01 leads to one of the ring 001, nor the other way round.
        apart = [0] * 32
        for word in ("01010", "10101", "00100", "01001", "10010"):
            apart[int(word, 2)] = 1
        for cells in list(range(1, 30)) + list(range(FAR - 30, FAR + 1)):
            self.assertIs(reaches_top((2, 5, apart), cells), cells % 2 == 0 or cells % 3 == 0)
        # With shorter words they do.
        joined = (2, 3, [-1, 0, 0, -1, 0, 0, -1, -1])
        for cells in list(range(1, 30)) + list(range(FAR - 30, FAR + 1)):
            self.assertIs(reaches_top(joined, cells), cells > 1)

    def test_equal_values(self):
        for value in (0, 7, -GREAT):
            for cells in (1, 2, 3, 512, FAR - 1, FAR):
                self.assertIs(reaches_top((3, 3, [value] * 27), cells), True)


if __name__ == "__main__":
    unittest.main()
