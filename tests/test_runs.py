import unittest
from itertools import groupby

from cellflows import errors
from cellflows.rules import ticked
from cellflows.runs import cells_of, is_runs, normal_runs, runs_of, runs_sum, ticked_runs, unrolled
from tests.reckoning import (
    GREAT, LONGEST, NOT_INTEGERS, NOT_RINGS, NOT_RULES, NOT_RUNS, NOT_SIGNS, NOT_WEIGHTS, ONES, RISES,
    ROAD, SHIFT, SPREAD, Numbers, check_fresh, check_raises, fulls, identity, packed_road, plain_sum,
    plain_ticks, rings_up_to, some_rules, some_weights, word_number,
)

FAR = 10 ** 30
OF_SIGNS_AND_RUNS = (cells_of, normal_runs, unrolled)


def plain_runs(ring):
    return [(sign, len(list(same))) for sign, same in groupby(ring)]


def plain_ring(runs):
    return [sign for sign, many in runs for _ in range(many)]


def some_runs(numbers, signs, most, many):
    """Runs of up to `most` cells each, some of which are not normal."""
    return [(numbers.below(signs), 1 + numbers.below(most)) for _ in range(1 + numbers.below(many))]


def sign_at(runs, cell):
    """The sign of the cell with any number, taken round the ring."""
    cell = cell % sum(many for _, many in runs)
    for sign, many in runs:
        if cell < many:
            return sign
        cell = cell - many


def later_sign(rule, runs, ticks, cell):
    """The sign of a cell behind so many ticks, by all cells that play a part in it."""
    signs, first, width, table = rule
    start = cell + ticks * first
    word = [sign_at(runs, start + at) for at in range(1 + ticks * (width - 1))]
    for _ in range(ticks):
        word = [table[word_number(signs, word[at:at + width])] for at in range(len(word) - width + 1)]
    return word[0]


def borders_of(runs):
    found, cell = [], 0
    for _, many in runs:
        found.append(cell)
        cell = cell + many
    return found


class TestIsRuns(unittest.TestCase):

    def test_runs(self):
        for signs, runs in (
            (2, [(0, 1)]), (2, [(1, FAR)]), (2, [(1, 1), (1, 1)]), (3, [(2, 5), (0, GREAT), (2, 1)]), (4, [(3, 7)] * 40),
            (2, [(0, 1), (1, 1)] * 256), (4, [(0, 10 ** 60)]),
        ):
            self.assertIs(check_fresh(self, is_runs, signs, runs), True)

    def test_signs_of_other_numbers_of_signs(self):
        for signs in (2, 3, 4):
            self.assertIs(is_runs(signs, [(signs - 1, 1)]), True)
            self.assertIs(is_runs(signs, [(signs, 1)]), False)
            self.assertIs(is_runs(signs, [(0, 3), (-1, 1)]), False)

    def test_values_that_are_no_runs(self):
        for value in NOT_RUNS:
            self.assertIs(is_runs(2, value), False, value)

    def test_wrong_signs(self):
        for value in NOT_SIGNS:
            for runs in ([(0, 1)], [], None):
                check_raises(self, errors.InvalidSigns, is_runs, value, runs)


class TestRunsOf(unittest.TestCase):

    def test_example(self):
        self.assertEqual(runs_of(2, [0, 0, 1, 0]), [(0, 2), (1, 1), (0, 1)])

    def test_all_small_rings(self):
        for signs in (2, 3, 4):
            for ring in rings_up_to(signs, 5):
                told = check_fresh(self, runs_of, signs, ring)
                self.assertEqual(told, plain_runs(ring))
                self.assertEqual(unrolled(signs, told), ring)
                self.assertEqual({type(run) for run in told}, {tuple})

    def test_the_greatest_rings(self):
        self.assertEqual(runs_of(4, [3] * 512), [(3, 512)])
        self.assertEqual(runs_of(2, [0, 1] * 256), [(0, 1), (1, 1)] * 256)

    def test_wrong_arguments(self):
        for value in NOT_SIGNS:
            check_raises(self, errors.InvalidSigns, runs_of, value, [0, 1])
            check_raises(self, errors.InvalidSigns, runs_of, value, None)
        for value in NOT_RINGS:
            check_raises(self, errors.InvalidRing, runs_of, 2, value)
        check_raises(self, errors.InvalidRing, runs_of, 3, [0, 3])


class TestCellsAndNormalRuns(unittest.TestCase):

    def test_example(self):
        self.assertEqual(cells_of(2, [(1, FAR), (0, FAR)]), 2 * FAR)

    def test_against_the_ring(self):
        numbers = Numbers(701)
        for at in range(200):
            signs = 2 + at % 3
            runs = some_runs(numbers, signs, 6, 12)
            self.assertEqual(check_fresh(self, cells_of, signs, runs), len(plain_ring(runs)))
            told = check_fresh(self, normal_runs, signs, runs)
            self.assertEqual(told, plain_runs(plain_ring(runs)))
            self.assertIs(is_runs(signs, told), True)

    def test_the_last_run_and_the_first_one_may_have_one_sign(self):
        self.assertEqual(normal_runs(2, [(0, 1), (1, 2), (0, 3)]), [(0, 1), (1, 2), (0, 3)])
        self.assertEqual(normal_runs(3, [(2, 1), (2, 1), (0, 1), (2, 4), (2, 1)]), [(2, 2), (0, 1), (2, 5)])
        self.assertEqual(normal_runs(2, [(1, 3)] * 40), [(1, 120)])

    def test_far_runs(self):
        self.assertEqual(normal_runs(4, [(3, FAR), (3, FAR), (1, 1)] * 2), [(3, 2 * FAR), (1, 1), (3, 2 * FAR), (1, 1)])
        self.assertEqual(cells_of(4, [(3, FAR)] * 40), 40 * FAR)

    def test_wrong_arguments(self):
        for call in OF_SIGNS_AND_RUNS:
            for value in NOT_SIGNS:
                check_raises(self, errors.InvalidSigns, call, value, [(0, 1)])
                check_raises(self, errors.InvalidSigns, call, value, None)
            for value in NOT_RUNS:
                check_raises(self, errors.InvalidRuns, call, 2, value)
            check_raises(self, errors.InvalidRuns, call, 3, [(0, 1), (3, 1)])


class TestUnrolled(unittest.TestCase):

    def test_against_the_ring(self):
        numbers = Numbers(703)
        for at in range(200):
            signs = 2 + at % 3
            runs = some_runs(numbers, signs, 40, 12)
            self.assertEqual(check_fresh(self, unrolled, signs, runs), plain_ring(runs))

    def test_the_greatest_rings(self):
        self.assertEqual(unrolled(4, [(3, 512)]), [3] * 512)
        self.assertEqual(unrolled(2, [(0, 1), (1, 511)]), [0] + [1] * 511)
        for runs in ([(1, 513)], [(0, 1), (1, 512)], [(1, 1)] * 513, [(0, FAR)], [(0, 100)] * 6):
            self.assertEqual(check_raises(self, errors.TooLarge, unrolled, 2, runs).limit, 512)


class TestRunsSum(unittest.TestCase):

    def test_example(self):
        self.assertEqual(runs_sum(RISES, [(1, FAR), (0, FAR)]), 1)

    def test_against_the_ring(self):
        numbers = Numbers(705)
        for weight in some_weights(707, 90) + fulls(709, 5) + fulls(711, GREAT):
            for most, many in ((1, 3), (3, 6), (12, 6), (40, 8)):
                runs = some_runs(numbers, weight[0], most, many)
                self.assertEqual(check_fresh(self, runs_sum, weight, runs), plain_sum(weight, plain_ring(runs)))

    def test_one_run(self):
        for weight in some_weights(713, 12) + fulls(715, 5):
            signs, span, values = weight
            for sign in range(signs):
                value = values[sign * (len(values) - 1) // (signs - 1)]
                for many in (1, 2, span, span + 1, FAR):
                    self.assertEqual(runs_sum(weight, [(sign, many)]), many * value)
                    self.assertEqual(runs_sum(weight, [(sign, many), (sign, many)]), 2 * many * value)

    def test_far_runs(self):
        # A run that grows has as many words of its sign alone more.
        numbers = Numbers(717)
        for weight in some_weights(719, 60) + fulls(721, 5):
            signs, span, values = weight
            short = [(numbers.below(signs), numbers.below(3) * 10 + 1 + numbers.below(12)) for _ in range(40)]
            far, more = [], 0
            for sign, many in short:
                grown = many if many <= 10 else many + FAR - 40
                more += (grown - many) * values[sign * (len(values) - 1) // (signs - 1)]
                far.append((sign, grown))
            self.assertGreater(cells_of(signs, far), FAR)
            self.assertEqual(runs_sum(weight, far), plain_sum(weight, plain_ring(short)) + more)

    def test_runs_that_are_not_normal(self):
        for weight in some_weights(723, 30) + fulls(725, 5):
            runs = [(1, 4), (1, 3), (0, 1), (0, 1), (0, 1), (1, FAR), (1, 1)]
            self.assertEqual(runs_sum(weight, runs), runs_sum(weight, normal_runs(weight[0], runs)))
            turned = [(1, FAR + 8), (0, 3)]
            self.assertEqual(runs_sum(weight, runs), runs_sum(weight, turned))

    def test_wrong_arguments(self):
        for value in NOT_WEIGHTS:
            check_raises(self, errors.InvalidWeight, runs_sum, value, [(0, 1)])
            check_raises(self, errors.InvalidWeight, runs_sum, value, None)
        for value in NOT_RUNS:
            check_raises(self, errors.InvalidRuns, runs_sum, ONES, value)
        check_raises(self, errors.InvalidRuns, runs_sum, (3, 1, [0, 1, 2]), [(3, 1)])


class TestTickedRuns(unittest.TestCase):

    def test_example(self):
        told = ticked_runs(SPREAD, [(1, FAR), (0, FAR)], 3)
        self.assertEqual(told, [(1, FAR), (0, FAR - 3), (1, 3)])

    def test_against_the_ring(self):
        numbers = Numbers(727)
        for at, rule in enumerate(some_rules(729, 120, 9)):
            for most, many in ((1, 3), (2, 9), (12, 5), (30, 9)):
                runs = some_runs(numbers, rule[0], most, many)
                ticks = (0, 1, 2, 3, 10)[at % 5]
                told = check_fresh(self, ticked_runs, rule, runs, ticks)
                self.assertEqual(told, plain_runs(plain_ticks(rule, plain_ring(runs), ticks)))
                self.assertEqual({type(run) for run in told}, {tuple})

    def test_each_number_of_ticks(self):
        for rule in (ROAD, SPREAD, (3, -2, 2, [0, 1, 2, 2, 1, 0, 0, 0, 1]), packed_road(4)):
            runs = [(1, 7), (0, 1), (1, 30), (0, 9)]
            for ticks in range(11):
                self.assertEqual(ticked_runs(rule, runs, ticks), plain_runs(plain_ticks(rule, plain_ring(runs), ticks)))

    def test_rules_whose_cells_lie_far(self):
        numbers = Numbers(731)
        for signs, width in list(LONGEST.items()) + [(2, 1), (3, 2)]:
            table = numbers.signs(signs, signs ** width)
            for first in (-100, -57, -1, 1, 60, 101 - width):
                for most, many in ((1, 2), (3, 5), (60, 4)):
                    runs = some_runs(numbers, signs, most, many)
                    rule = (signs, first, width, table)
                    for ticks in (1, 2, 10):
                        told = ticked_runs(rule, runs, ticks)
                        self.assertEqual(told, plain_runs(plain_ticks(rule, plain_ring(runs), ticks)))

    def check_far(self, rule, runs, ticks):
        """Each cell near a border, ahead of the ticks or behind them, and one in each run between."""
        told = check_fresh(self, ticked_runs, rule, runs, ticks)
        self.assertIs(is_runs(rule[0], told), True)
        self.assertEqual(told, normal_runs(rule[0], told))
        self.assertEqual(cells_of(rule[0], told), cells_of(rule[0], runs))
        wide = ticks * (rule[2] - 1)
        cells = [border - ticks * rule[1] + by for border in borders_of(runs) for by in range(-wide - 1, 2)]
        cells += [border + by for border in borders_of(told) for by in (-1, 0)]
        cells += [border + many // 2 for border, (_, many) in zip(borders_of(told), told)]
        for cell in cells:
            self.assertEqual(sign_at(told, cell), later_sign(rule, runs, ticks, cell))

    def test_far_runs(self):
        numbers = Numbers(733)
        for at, rule in enumerate(some_rules(735, 24, 97)):
            if not -100 <= rule[1] <= 101 - rule[2]:
                continue
            runs = [
                (numbers.below(rule[0]), FAR - numbers.below(9) if numbers.below(2) else 1 + numbers.below(5)) for _ in range(7)
            ]
            self.check_far(rule, runs, (1, 3, 10)[at % 3])

    def test_forty_far_runs(self):
        numbers = Numbers(737)
        for rule in (ROAD, packed_road(3, -100), (4, 60, 2, numbers.signs(4, 16))):
            runs = [(numbers.below(rule[0]), FAR - at) for at in range(40)]
            self.check_far(rule, runs, 2)
            self.assertEqual(ticked_runs(rule, ticked_runs(rule, runs, 4), 6), ticked_runs(rule, runs, 10))

    def test_wide_rules_of_far_runs(self):
        numbers = Numbers(739)
        for signs, width in LONGEST.items():
            rule = (signs, -100, width, numbers.signs(signs, signs ** width))
            self.check_far(rule, [(0, FAR), (1, 1), (0, width - 1), (1, width), (signs - 1, FAR)], 2)

    def test_by_hand(self):
        self.assertEqual(ticked_runs(SHIFT, [(1, FAR), (0, 1)], 1), [(1, FAR - 1), (0, 1), (1, 1)])
        self.assertEqual(ticked_runs(identity(2, -100), [(1, FAR), (0, FAR)], 10), [(0, 1000), (1, FAR), (0, FAR - 1000)])
        self.assertEqual(ticked_runs(identity(2, 100), [(1, FAR), (0, FAR)], 10), [(1, FAR - 1000), (0, FAR), (1, 1000)])
        self.assertEqual(ticked_runs((2, 0, 1, [1, 0]), [(1, FAR), (0, 5)], 3), [(0, FAR), (1, 5)])
        self.assertEqual(ticked_runs((2, 0, 1, [1, 1]), [(1, FAR), (0, FAR)], 1), [(1, 2 * FAR)])
        self.assertEqual(ticked_runs(ROAD, [(1, FAR), (0, FAR)], 1), [(1, FAR - 1), (0, 1), (1, 1), (0, FAR - 1)])

    def test_one_run(self):
        for rule in some_rules(741, 24, 60):
            signs, _, _, table = rule
            for sign in range(signs):
                made = table[sign * (len(table) - 1) // (signs - 1)]
                for many in (1, 2, 100, FAR):
                    self.assertEqual(ticked_runs(rule, [(sign, many)], 1), [(made, many)])
                    self.assertEqual(ticked_runs(rule, [(sign, 1), (sign, many)], 1), [(made, many + 1)])

    def test_no_tick(self):
        runs = [(1, 2), (1, FAR), (0, 1), (1, 1)]
        self.assertEqual(check_fresh(self, ticked_runs, ROAD, runs, 0), [(1, FAR + 2), (0, 1), (1, 1)])

    def test_the_last_and_the_first_run_with_one_sign(self):
        for ticks in (0, 1, 2, 5):
            for runs in ([(1, 2), (0, 3), (1, 4)], [(0, 1), (1, 1), (0, 1)], [(0, 5), (1, 2), (1, 2), (0, 1)]):
                for rule in (ROAD, SHIFT, SPREAD, identity(2, -4)):
                    self.assertEqual(ticked_runs(rule, runs, ticks), plain_runs(ticked(rule, plain_ring(runs), ticks)))

    def test_wrong_arguments(self):
        for value in NOT_RULES:
            check_raises(self, errors.InvalidRule, ticked_runs, value, [(0, 1)], 1)
            check_raises(self, errors.InvalidRule, ticked_runs, value, None, None)
        for value in NOT_RUNS:
            check_raises(self, errors.InvalidRuns, ticked_runs, ROAD, value, 1)
            check_raises(self, errors.InvalidRuns, ticked_runs, ROAD, value, None)
        check_raises(self, errors.InvalidRuns, ticked_runs, packed_road(3), [(3, 1)], 1)
        for value in NOT_INTEGERS + (-1, 11, 100, FAR, -GREAT):
            check_raises(self, errors.InvalidTicks, ticked_runs, ROAD, [(0, 1)], value)


if __name__ == "__main__":
    unittest.main()
