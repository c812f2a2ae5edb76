import unittest
from math import gcd

from cellflows import errors
from cellflows.rules import is_ring
from cellflows.weights import added, apart_ring, divisor, is_weight, plain, sum_of
from tests.reckoning import (
    GREAT, LONGEST, NOT_INTEGERS, NOT_RINGS, NOT_WEIGHTS, ONES, RISES, Numbers, check_fresh,
    check_raises, fulls, plain_sum, rings_up_to, some_weights, words,
)

FALLS = (2, 2, [0, 0, 1, 0])


class TestIsWeight(unittest.TestCase):

    def test_weights(self):
        for weight in (ONES, RISES, FALLS, (3, 1, [-5, 0, 7]), (4, 2, [GREAT] * 16), (2, 1, [-GREAT, GREAT])):
            self.assertIs(check_fresh(self, is_weight, weight), True)

    def test_weights_of_the_greatest_spans(self):
        for signs, span in LONGEST.items():
            self.assertIs(is_weight((signs, span, [-3] * signs ** span)), True)
            self.assertIs(is_weight((signs, span + 1, [-3] * signs ** (span + 1))), False)

    def test_values_that_are_no_weights(self):
        for value in NOT_WEIGHTS:
            self.assertIs(is_weight(value), False, value)

    def test_kinds_below_lists_and_tuples_are_other_kinds(self):
        class Row(list):
            pass

        class Pack(tuple):
            pass

        self.assertIs(is_weight((2, 1, Row([0, 1]))), False)
        self.assertIs(is_weight(Pack((2, 1, [0, 1]))), False)


class TestSumOf(unittest.TestCase):

    def test_examples(self):
        self.assertEqual([sum_of(RISES, [0, 1, 1, 0, 1]), sum_of(RISES, [1]), sum_of(RISES, [0, 1])], [2, 0, 1])

    def test_against_a_reckoning_cell_by_cell(self):
        numbers = Numbers(5)
        for weight in some_weights(7, 60):
            for cells in (1, 2, 3, 5, 30):
                ring = numbers.signs(weight[0], cells)
                self.assertEqual(check_fresh(self, sum_of, weight, ring), plain_sum(weight, ring))

    def test_rings_shorter_than_the_words(self):
        for weight in fulls(13, 50):
            for ring in rings_up_to(weight[0], 4):
                self.assertEqual(sum_of(weight, ring), plain_sum(weight, ring))
        self.assertEqual(sum_of((2, 10, list(range(1024))), [1]), 1023)
        self.assertEqual(sum_of((2, 3, list(range(8))), [0, 1]), 2 + 5)

    def test_greatest_rings_and_values(self):
        numbers = Numbers(19)
        for weight in fulls(23, GREAT):
            ring = numbers.signs(weight[0], 512)
            self.assertEqual(sum_of(weight, ring), plain_sum(weight, ring))
        self.assertEqual(sum_of((2, 1, [-GREAT, GREAT]), [1] * 512), 512 * GREAT)
        check_raises(self, errors.InvalidRing, sum_of, ONES, [1] * 513)

    def test_wrong_arguments(self):
        for value in NOT_WEIGHTS:
            check_raises(self, errors.InvalidWeight, sum_of, value, [0])
        for value in NOT_RINGS:
            check_raises(self, errors.InvalidRing, sum_of, RISES, value)
        check_raises(self, errors.InvalidRing, sum_of, (3, 1, [0, 1, 2]), [3])
        self.assertEqual(sum_of((3, 1, [0, 1, 2]), [2]), 2)
        check_raises(self, errors.InvalidWeight, sum_of, (2, 1, [0]), [2])
        check_raises(self, errors.InvalidWeight, sum_of, None, None)


class TestPlain(unittest.TestCase):

    def check_plain(self, weight):
        """The result is a plain weight, by the words of the document."""
        signs, span, values = weight
        self.assertIs(is_weight(weight), True)
        self.assertEqual(len(set(values[:signs ** (span - 1)])), 1)
        if span > 1:
            self.assertTrue(any(values[at] != values[at - at % signs] for at in range(len(values))))

    def test_examples(self):
        self.assertEqual(plain(RISES), (2, 2, [0, 0, 1, 0]))
        self.assertEqual(plain((2, 2, [3, 3, 4, 4])), (2, 1, [3, 4]))

    def test_weights_that_are_plain_already(self):
        for weight in (ONES, FALLS, (2, 1, [3, 3]), (3, 1, [1, -4, 0]), (2, 3, [5, 5, 5, 5, 1, 2, 3, 4])):
            self.assertEqual(check_fresh(self, plain, weight), weight)

    def test_it_is_plain_and_alike(self):
        for weight in some_weights(29, 60):
            told = check_fresh(self, plain, weight)
            self.check_plain(told)
            self.assertEqual(plain(told), told)
            for ring in rings_up_to(weight[0], 6 if weight[0] == 2 else 4):
                self.assertEqual(plain_sum(told, ring), plain_sum(weight, ring))

    def test_greatest_weights(self):
        numbers = Numbers(31)
        for weight in fulls(37, GREAT):
            told = check_fresh(self, plain, weight)
            self.check_plain(told)
            self.assertEqual(told[1], weight[1])
            for cells in (1, 2, 5, 30, 512):
                ring = numbers.signs(weight[0], cells)
                self.assertEqual(plain_sum(told, ring), plain_sum(weight, ring))

    def test_values_that_begin_or_end_in_words_that_make_no_difference(self):
        for signs, span, values in (ONES, RISES, (3, 1, [4, -1, 0]), (3, 2, [0, 1, 5, 2, 2, 2, 0, -9, 1])):
            for left, right in ((0, 0), (1, 0), (0, 1), (2, 0), (0, 2), (1, 1), (2, 1)):
                wide = [value for value in values * signs ** left for _ in range(signs ** right)]
                told = check_fresh(self, plain, (signs, span + left + right, wide))
                self.assertEqual(told, plain((signs, span, values)))

    def test_equal_values(self):
        for signs, span in LONGEST.items():
            self.assertEqual(plain((signs, span, [7] * signs ** span)), (signs, 1, [7] * signs))
            self.assertEqual(plain((signs, span, [0] * signs ** span)), (signs, 1, [0] * signs))

    def test_weights_are_alike_just_if_their_plain_weights_are_equal(self):
        weights = [(2, 2, values) for values in (
            [a, b, c, d] for a in (0, 1) for b in (-1, 0, 1) for c in (0, 1, 2) for d in (0, 1)
        )]
        rings = rings_up_to(2, 4)
        sums = [[plain_sum(weight, ring) for ring in rings] for weight in weights]
        for weight, one in zip(weights, sums):
            for second, other in zip(weights, sums):
                self.assertEqual(plain(weight) == plain(second), one == other)

    def test_wrong_weights(self):
        for value in NOT_WEIGHTS:
            check_raises(self, errors.InvalidWeight, plain, value)
            check_raises(self, errors.InvalidWeight, divisor, value)


class TestDivisor(unittest.TestCase):

    def test_example(self):
        self.assertEqual(divisor((2, 2, [0, 3, 3, 0])), 6)

    def test_no_sum(self):
        for weight in ((2, 1, [0, 0]), (2, 2, [0, 1, -1, 0]), (3, 6, [0] * 729), (2, 3, [0, 4, 4, 0, -4, 0, 0, 0])):
            sums = [plain_sum(weight, ring) for ring in rings_up_to(weight[0], 5)]
            self.assertEqual(check_fresh(self, divisor, weight), 0 if not any(sums) else gcd(*sums))
        self.assertEqual(divisor((2, 2, [0, 1, -1, 0])), 0)

    def test_signs_of_values(self):
        self.assertEqual(divisor((2, 1, [-6, 4])), 2)
        self.assertEqual(divisor((2, 1, [-6, 0])), 6)
        self.assertEqual(divisor((2, 1, [-5, -5])), 5)
        self.assertEqual(divisor(ONES), 1)
        self.assertEqual(divisor((2, 1, [0, GREAT])), GREAT)

    def test_against_the_sums_of_all_short_rings(self):
        for weight in some_weights(41, 60):
            for times in (1, 6):
                scaled = (weight[0], weight[1], [value * times for value in weight[2]])
                # The plain weight is made of sums of rings of up to this many cells.
                cells = 2 * weight[1] - 1 if weight[0] == 2 else min(2 * weight[1] - 1, 5)
                sums = [plain_sum(scaled, ring) for ring in rings_up_to(weight[0], cells)]
                self.assertEqual(divisor(scaled), gcd(*sums))

    def test_greatest_weights(self):
        for weight in fulls(43, 1000):
            found = divisor((weight[0], weight[1], [value * 10 ** 30 for value in weight[2]]))
            self.assertEqual(found % 10 ** 30, 0)
            self.assertEqual(found // 10 ** 30, divisor(weight))


class TestAdded(unittest.TestCase):

    def test_example(self):
        self.assertEqual(added(ONES, RISES, 2), (2, 2, [0, 2, 1, 1]))

    def test_values_are_made_of_those_of_the_beginnings(self):
        self.assertEqual(check_fresh(self, added, (2, 1, [1, 2]), (2, 3, list(range(8))), 10),
                         (2, 3, [1, 11, 21, 31, 42, 52, 62, 72]))
        self.assertEqual(check_fresh(self, added, (2, 3, list(range(8))), (2, 1, [1, 2]), 10),
                         (2, 3, [10, 11, 12, 13, 24, 25, 26, 27]))
        self.assertEqual(added((3, 2, list(range(9))), (3, 1, [100, 200, 300]), 1),
                         (3, 2, [100, 101, 102, 203, 204, 205, 306, 307, 308]))

    def test_against_sums(self):
        weights = some_weights(47, 24)
        numbers = Numbers(53)
        for weight in weights:
            for second in weights:
                if weight[0] != second[0]:
                    continue
                for times in (-3, -1, 0, 1, 2):
                    told = check_fresh(self, added, weight, second, times)
                    self.assertEqual(told[:2], (weight[0], max(weight[1], second[1])))
                    ring = numbers.signs(weight[0], 1 + numbers.below(9))
                    self.assertEqual(
                        plain_sum(told, ring), plain_sum(weight, ring) + times * plain_sum(second, ring))

    def test_no_times_and_times_below_0(self):
        self.assertEqual(check_fresh(self, added, ONES, RISES, 0), (2, 2, [0, 0, 1, 1]))
        self.assertEqual(check_fresh(self, added, RISES, ONES, 0), RISES)
        self.assertEqual(check_fresh(self, added, ONES, ONES, 0), ONES)
        self.assertEqual(added(ONES, ONES, -1), (2, 1, [0, 0]))
        self.assertEqual(added(RISES, ONES, -4), (2, 2, [0, 1, -4, -4]))
        self.assertEqual(added(ONES, RISES, -GREAT), (2, 2, [0, -GREAT, 1, 1]))
        self.assertEqual(added(ONES, (2, 1, [GREAT, -GREAT]), GREAT), (2, 1, [GREAT ** 2, 1 - GREAT ** 2]))

    def test_greatest_weights(self):
        for (signs, span, values), small in zip(fulls(59, GREAT), (ONES, (3, 1, [1, 2, 3]), (4, 1, [4, 3, 2, 1]))):
            block = signs ** (span - 1)
            told = check_fresh(self, added, (signs, span, values), small, 3)
            self.assertEqual(told, (signs, span, [v + 3 * small[2][at // block] for at, v in enumerate(values)]))
            told = check_fresh(self, added, small, (signs, span, values), 3)
            self.assertEqual(told, (signs, span, [small[2][at // block] + 3 * v for at, v in enumerate(values)]))

    def test_what_was_returned_may_be_passed_back(self):
        great = added(ONES, (2, 1, [GREAT, -GREAT]), GREAT)
        self.assertEqual(added(great, great, 1), (2, 1, [2 * value for value in great[2]]))
        self.assertEqual(sum_of(great, [0, 0, 1]), 2 * great[2][0] + great[2][1])

    def test_wrong_weights(self):
        for value in NOT_WEIGHTS:
            check_raises(self, errors.InvalidWeight, added, value, ONES, 1)
            check_raises(self, errors.InvalidWeight, added, ONES, value, 1)

    def test_wrong_times(self):
        for value in NOT_INTEGERS:
            check_raises(self, errors.InvalidTotal, added, ONES, RISES, value)

    def test_the_first_wrong_argument_counts(self):
        three = (3, 1, [0, 1, 2])
        check_raises(self, errors.InvalidWeight, added, None, ONES, None)
        check_raises(self, errors.InvalidWeight, added, ONES, None, None)
        check_raises(self, errors.InvalidTotal, added, ONES, three, None)
        check_raises(self, errors.InvalidTotal, added, three, ONES, True)
        check_raises(self, errors.UnlikeSigns, added, ONES, three, 0)
        check_raises(self, errors.UnlikeSigns, added, three, ONES, 1)


class TestApartRing(unittest.TestCase):

    def check_apart(self, weight, second):
        for one, other in ((weight, second), (second, weight)):
            ring = check_fresh(self, apart_ring, one, other)
            self.assertIs(is_ring(weight[0], ring), True)
            self.assertNotEqual(plain_sum(one, ring), plain_sum(other, ring))

    def check_alike(self, weight, second):
        self.assertIsNone(check_fresh(self, apart_ring, weight, second))
        self.assertIsNone(check_fresh(self, apart_ring, second, weight))

    def test_example(self):
        self.assertIsNone(apart_ring(RISES, FALLS))

    def test_alike_weights(self):
        for weight in some_weights(61, 40) + fulls(67, GREAT):
            self.check_alike(weight, weight)
            self.check_alike(weight, plain(weight))
        self.check_alike((2, 2, [0, 1, 0, 1]), ONES)
        self.check_alike((2, 3, [0, 0, 0, 0, 1, 1, 1, 1]), ONES)

    def test_unlike_weights(self):
        self.check_apart(ONES, RISES)
        self.check_apart(ONES, (2, 1, [1, 1]))
        self.check_apart(ONES, (2, 1, [1, 2]))
        self.check_apart((2, 1, [0, 0]), (2, 1, [0, 1]))
        self.check_apart((3, 1, [0, 1, 2]), (3, 1, [0, 1, 3]))

    def test_all_small_weights(self):
        weights = [(2, 2, values) for values in words(3, 4)]
        rings = rings_up_to(2, 4)
        sums = [[plain_sum(weight, ring) for ring in rings] for weight in weights]
        for weight, one in zip(weights, sums):
            for second, other in zip(weights, sums):
                ring = apart_ring(weight, second)
                if one == other:
                    self.assertIsNone(ring)
                else:
                    self.assertNotEqual(plain_sum(weight, ring), plain_sum(second, ring))

    def test_unlike_weights_by_lot(self):
        weights = some_weights(71, 36)
        for weight in weights:
            for second in weights:
                if weight[0] == second[0] and plain(weight) != plain(second):
                    self.check_apart(weight, second)

    def test_sums_that_cancel_in_the_ring_that_comes_first_to_mind(self):
        # The word 1 1 and zeros have the sum 0 by these, but not all rings have.
        self.check_apart((2, 2, [0, 0, -1, 1]), (2, 1, [0, 0]))
        self.check_apart((2, 3, [0, 0, 0, 0, -1, 0, 1, 0]), (2, 1, [0, 0]))
        self.check_apart((2, 3, [0, 0, 0, 0, 0, 0, 1, -1]), (2, 1, [0, 0]))

    def test_greatest_weights_that_differ_at_one_word(self):
        for signs, span, values in fulls(73, GREAT):
            for at in (0, 1, signs, 500 % len(values), len(values) // signs, len(values) - 2, len(values) - 1):
                for gap in (1, -1, GREAT):
                    other = list(values)
                    other[at] += gap
                    self.check_apart((signs, span, values), (signs, span, other))

    def test_weights_that_differ_at_each_one_word(self):
        zero = (2, 1, [0, 0])
        for at in range(64):
            self.check_apart((2, 6, [1 if k == at else 0 for k in range(64)]), zero)

    def test_wrong_weights(self):
        for value in NOT_WEIGHTS:
            check_raises(self, errors.InvalidWeight, apart_ring, value, ONES)
            check_raises(self, errors.InvalidWeight, apart_ring, ONES, value)

    def test_unlike_signs_come_behind_wrong_weights(self):
        three = (3, 1, [0, 1, 2])
        check_raises(self, errors.UnlikeSigns, apart_ring, ONES, three)
        check_raises(self, errors.UnlikeSigns, apart_ring, three, ONES)
        check_raises(self, errors.InvalidWeight, apart_ring, three, (2, 1, [0]))
        check_raises(self, errors.InvalidWeight, apart_ring, (2, 1, [0]), three)


if __name__ == "__main__":
    unittest.main()
