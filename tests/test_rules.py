import unittest
from itertools import product

from cellflows import errors
from cellflows.rules import composed, is_ring, is_rule, mirrored, parting_ring, reduced, ticked
from tests.reckoning import (
    LONGEST, NOT_INTEGERS, NOT_RINGS, NOT_RULES, ROAD, SHIFT, SPREAD, Numbers, check_fresh,
    check_raises, plain_tick, plain_ticks, some_rules, words,
)


class TestIsRule(unittest.TestCase):

    def test_rules(self):
        for rule in (ROAD, SHIFT, SPREAD, (3, 5, 1, [2, 2, 0]), (4, -7, 2, [3] * 16)):
            self.assertIs(check_fresh(self, is_rule, rule), True)

    def test_rules_of_the_greatest_widths(self):
        for signs, width in LONGEST.items():
            self.assertIs(is_rule((signs, 0, width, [signs - 1] * signs ** width)), True)
            self.assertIs(is_rule((signs, 0, width + 1, [0] * signs ** (width + 1))), False)

    def test_both_bounds_of_first(self):
        for first, width, told in (
            (-100, 1, True), (-101, 1, False), (100, 1, True), (101, 1, False), (99, 2, True), (100, 2, False),
            (-100, 10, True), (91, 10, True), (92, 10, False), (-101, 10, False),
        ):
            self.assertIs(is_rule((2, first, width, [0] * 2 ** width)), told, (first, width))

    def test_values_that_are_no_rules(self):
        for value in NOT_RULES:
            self.assertIs(is_rule(value), False, value)

    def test_kinds_below_lists_and_tuples_are_other_kinds(self):
        class Row(list):
            pass

        class Pack(tuple):
            pass

        self.assertIs(is_rule((2, 0, 1, Row([0, 1]))), False)
        self.assertIs(is_rule(Pack((2, 0, 1, [0, 1]))), False)
        self.assertIs(is_ring(2, Row([0, 1])), False)


class TestIsRing(unittest.TestCase):

    def test_rings(self):
        for signs, ring in ((2, [0]), (2, [1]), (2, [0, 1, 1]), (3, [2, 0, 1]), (4, [3]), (4, [0, 0, 0])):
            self.assertIs(check_fresh(self, is_ring, signs, ring), True)

    def test_numbers_of_cells(self):
        self.assertIs(is_ring(2, []), False)
        self.assertIs(is_ring(2, [1]), True)
        self.assertIs(is_ring(4, [3] * 512), True)
        self.assertIs(is_ring(4, [3] * 513), False)

    def test_signs_of_other_numbers_of_signs(self):
        for signs in (2, 3, 4):
            self.assertIs(is_ring(signs, [0, signs - 1]), True)
            self.assertIs(is_ring(signs, [0, signs]), False)
            self.assertIs(is_ring(signs, [0, -1]), False)

    def test_values_that_are_no_rings(self):
        for value in NOT_RINGS:
            self.assertIs(is_ring(2, value), False, value)

    def test_wrong_signs(self):
        for signs in NOT_INTEGERS + (1, 5, 0, -2, 10 ** 39, (2,), ROAD):
            for value in ([0, 1], None, []):
                check_raises(self, errors.InvalidSigns, is_ring, signs, value)


class TestTicked(unittest.TestCase):

    def test_examples(self):
        self.assertEqual(ticked(ROAD, [1, 1, 0, 0], 1), [1, 0, 1, 0])
        self.assertEqual(ticked(ROAD, [1, 1, 0, 0], 2), [0, 1, 0, 1])
        self.assertEqual(ticked(SHIFT, [1, 0, 0], 10 ** 30), [0, 0, 1])

    def test_against_a_reckoning_cell_by_cell(self):
        numbers = Numbers(11)
        for rule in some_rules(5, 60):
            for cells in (1, 2, 3, 5, 8, 20):
                ring = numbers.signs(rule[0], cells)
                for ticks in (0, 1, 2, 7):
                    self.assertEqual(check_fresh(self, ticked, rule, ring, ticks), plain_ticks(rule, ring, ticks))

    def test_all_short_rings(self):
        for rule in some_rules(8, 6, 6):
            for cells in (1, 2, 3, 4):
                for ring in words(rule[0], cells):
                    self.assertEqual(ticked(rule, ring, 1), plain_tick(rule, ring))

    def test_no_tick_gives_a_new_ring(self):
        ring = [0, 1, 1]
        self.assertEqual(check_fresh(self, ticked, SPREAD, ring, 0), ring)
        self.assertIsNot(ticked(SPREAD, ring, 0), ring)

    def test_far_cells_go_round_short_rings(self):
        for first in (-100, -57, 57, 100):
            rule = (2, first, 1, [0, 1])
            for cells in (1, 2, 3, 7, 150):
                ring = [1] + [0] * (cells - 1)
                self.assertEqual(ticked(rule, ring, 1), [1 if (k + first) % cells == 0 else 0 for k in range(cells)])

    def test_greatest_tables(self):
        numbers = Numbers(3)
        for signs, width in LONGEST.items():
            for first in (-100, 0, 101 - width):
                rule = (signs, first, width, numbers.signs(signs, signs ** width))
                for cells in (1, width - 1, width, 512):
                    ring = numbers.signs(signs, cells)
                    self.assertEqual(ticked(rule, ring, 2), plain_ticks(rule, ring, 2))

    def test_a_hundred_ticks_of_the_greatest_ring(self):
        ring = Numbers(4).signs(2, 512)
        self.assertEqual(ticked(ROAD, ring, 100), plain_ticks(ROAD, ring, 100))
        self.assertEqual(ticked(SHIFT, ring, 100), ring[100:] + ring[:100])

    def test_ticks_up_to_a_hundred_always(self):
        for signs, cells in ((2, 17), (2, 512), (3, 11), (4, 9)):
            rule, ring = (signs, 1, 1, list(range(signs))), [1] + [0] * (cells - 1)
            self.assertEqual(ticked(rule, ring, 100), [1 if (k + 100) % cells == 0 else 0 for k in range(cells)])
            for ticks in (101, 10 ** 30):
                check_raises(self, errors.InvalidTicks, ticked, rule, ring, ticks)

    def test_far_ticks_with_few_rings(self):
        for signs, cells in ((2, 16), (2, 1), (3, 10), (4, 8)):
            rule, ring = (signs, 1, 1, list(range(signs))), [1] + [0] * (cells - 1)
            for ticks in (101, 10 ** 6 + 1, 10 ** 30 - 1, 10 ** 30):
                told = [1 if (k + ticks) % cells == 0 else 0 for k in range(cells)]
                self.assertEqual(check_fresh(self, ticked, rule, ring, ticks), told)
            check_raises(self, errors.InvalidTicks, ticked, rule, ring, 10 ** 30 + 1)

    def test_far_ticks_behind_a_beginning_that_does_not_return(self):
        self.assertEqual(ticked(SPREAD, [0] * 15 + [1], 10 ** 30), [1] * 16)
        for rule in some_rules(21, 12):
            ring = Numbers(9).signs(rule[0], 6)
            seen = [ring]
            while seen.count(seen[-1]) < 2:
                seen.append(plain_tick(rule, seen[-1]))
            start = seen.index(seen[-1])
            length = len(seen) - 1 - start
            for ticks in (10 ** 30, 10 ** 30 - 1, 10 ** 29 + 7, 101, 1000):
                told = seen[ticks] if ticks < start else seen[start + (ticks - start) % length]
                self.assertEqual(ticked(rule, ring, ticks), told)

    def test_a_long_way_round(self):
        # Of all rules of three cells this one is among those that take longest to come round.
        rule = (2, -1, 3, [0, 1, 1, 1, 1, 0, 0, 0])
        for cells in (11, 13, 15, 16):
            ring = [1] + [0] * (cells - 1)
            for ticks in (999, 5000):
                self.assertEqual(ticked(rule, ring, ticks), plain_ticks(rule, ring, ticks))

    def test_wrong_rules(self):
        for value in NOT_RULES:
            check_raises(self, errors.InvalidRule, ticked, value, [0, 1], 1)

    def test_wrong_rings(self):
        for value in NOT_RINGS:
            check_raises(self, errors.InvalidRing, ticked, ROAD, value, 1)
        check_raises(self, errors.InvalidRing, ticked, (3, 0, 1, [0, 1, 2]), [0, 3], 1)

    def test_wrong_ticks(self):
        for value in NOT_INTEGERS + (-1, -10 ** 39, 10 ** 30 + 1, 10 ** 39):
            check_raises(self, errors.InvalidTicks, ticked, ROAD, [0, 1], value)

    def test_the_first_wrong_argument_counts(self):
        check_raises(self, errors.InvalidRule, ticked, None, None, None)
        check_raises(self, errors.InvalidRule, ticked, (2, 0, 1, [0, 2]), [5], -1)
        check_raises(self, errors.InvalidRing, ticked, ROAD, [5], -1)
        check_raises(self, errors.InvalidRing, ticked, ROAD, [0] * 513, 10 ** 39)


class TestReduced(unittest.TestCase):

    def test_examples(self):
        self.assertEqual(reduced((2, -1, 2, [0, 0, 1, 1])), (2, -1, 1, [0, 1]))
        self.assertEqual(reduced((2, 5, 2, [1, 1, 1, 1])), (2, 0, 1, [1, 1]))

    def test_equal_items(self):
        for signs, width in ((2, 1), (2, 10), (3, 6), (4, 5)):
            for sign in range(signs):
                for first in (-100, 0, 3, 101 - width):
                    rule = (signs, first, width, [sign] * signs ** width)
                    self.assertEqual(check_fresh(self, reduced, rule), (signs, 0, 1, [sign] * signs))

    def test_rules_that_are_reduced_already(self):
        for rule in (ROAD, SHIFT, SPREAD, (2, -3, 1, [1, 0]), (3, 7, 1, [0, 0, 1])):
            self.assertEqual(check_fresh(self, reduced, rule), rule)

    def test_cells_that_play_no_part_on_the_left_and_on_the_right(self):
        for core in ((2, 3, [0, 0, 0, 1, 1, 1, 0, 1]), (3, 1, [0, 2, 1]), (3, 2, [0, 0, 1, 2, 0, 0, 1, 1, 1])):
            signs, width, table = core
            for left, right in ((0, 0), (0, 1), (1, 0), (2, 0), (0, 2), (1, 1), (2, 2)):
                wide = table * signs ** left
                wide = [item for item in wide for _ in range(signs ** right)]
                rule = (signs, -left - 4, width + left + right, wide)
                self.assertEqual(check_fresh(self, reduced, rule), (signs, -4, width, table))

    def test_a_cell_between_that_plays_no_part_stays(self):
        rule = (2, 0, 3, [a ^ c for a, b, c in product((0, 1), repeat=3)])
        self.assertEqual(reduced(rule), rule)

    def test_greatest_tables_with_one_other_word(self):
        for signs, width in LONGEST.items():
            for at in (0, 1, signs ** width - 1):
                table = [0] * signs ** width
                table[at] = 1
                self.assertEqual(reduced((signs, -100, width, table)), (signs, -100, width, table))

    def test_it_makes_the_same_and_no_narrower_rule_does(self):
        for rule in some_rules(31, 40, 2):
            told = reduced(rule)
            self.assertTrue(is_rule(told))
            for cells in (1, 2, 3, 5):
                for ring in words(rule[0], cells) if rule[0] ** cells < 300 else []:
                    self.assertEqual(plain_tick(told, ring), plain_tick(rule, ring))
            self.assertIsNone(parting_ring(rule, told))
            self.assertEqual(reduced(told), told)

    def test_all_rules_of_two_signs_and_two_cells(self):
        rings = words(2, 5)
        for table in words(2, 4):
            rule = (2, 0, 2, table)
            made = [plain_tick(rule, ring) for ring in rings]
            narrow = [
                (2, first, 1, short) for first in (0, 1) for short in words(2, 2)
                if [plain_tick((2, first, 1, short), ring) for ring in rings] == made
            ]
            self.assertEqual(reduced(rule), narrow[0] if narrow else rule)

    def test_wrong_rules(self):
        for value in NOT_RULES:
            check_raises(self, errors.InvalidRule, reduced, value)


class TestPartingRing(unittest.TestCase):

    def check_parts(self, rule, later):
        for one, other in ((rule, later), (later, rule)):
            ring = check_fresh(self, parting_ring, one, other)
            self.assertIs(is_ring(rule[0], ring), True)
            self.assertNotEqual(plain_tick(one, ring), plain_tick(other, ring))

    def check_parts_nowhere(self, rule, later):
        self.assertIsNone(check_fresh(self, parting_ring, rule, later))
        self.assertIsNone(check_fresh(self, parting_ring, later, rule))

    def test_example(self):
        self.assertIsNone(parting_ring(composed(SHIFT, SPREAD), composed(SPREAD, SHIFT)))

    def test_unlike_rules(self):
        for rule, later in ((ROAD, SHIFT), (ROAD, SPREAD), (SHIFT, SPREAD), (SHIFT, (2, 0, 1, [0, 1]))):
            self.check_parts(rule, later)

    def test_equal_rules(self):
        for rule in (ROAD, SHIFT, SPREAD, (2, 0, 1, [0, 0])):
            self.check_parts_nowhere(rule, rule)

    def test_rules_that_make_the_same_from_unlike_words(self):
        self.check_parts_nowhere((2, -1, 2, [0, 0, 1, 1]), (2, -1, 1, [0, 1]))
        self.check_parts_nowhere((2, -100, 2, [1, 1, 1, 1]), (2, 100, 1, [1, 1]))
        self.check_parts_nowhere((2, -1, 2, [0, 1, 0, 1]), (2, 0, 2, [0, 0, 1, 1]))
        self.check_parts_nowhere((3, 0, 2, [0, 1, 2] * 3), (3, 1, 1, [0, 1, 2]))

    def test_all_rules_of_two_cells(self):
        rings = words(2, 4)
        rules = [(2, first, 2, table) for first in (0, 1) for table in words(2, 4)]
        made = [[plain_tick(rule, ring) for ring in rings] for rule in rules]
        for rule, one in zip(rules, made):
            for later, other in zip(rules, made):
                if one == other:
                    self.assertIsNone(parting_ring(rule, later))
                else:
                    ring = parting_ring(rule, later)
                    self.assertNotEqual(plain_tick(rule, ring), plain_tick(later, ring))

    def test_greatest_tables_that_differ_at_one_word(self):
        numbers = Numbers(17)
        for signs, width in LONGEST.items():
            for at in (0, 1, 511 % signs ** width, signs ** width - 1):
                table = numbers.signs(signs, signs ** width)
                other = list(table)
                other[at] = (other[at] + 1) % signs
                for first in (-100, -4, 101 - width):
                    self.check_parts((signs, first, width, table), (signs, first, width, other))
                    self.check_parts_nowhere((signs, first, width, table), (signs, first, width, list(table)))

    def test_tables_that_differ_at_one_word_and_overlap_in_part(self):
        wide = [0] * 1024
        wide[777] = 1
        for first in (-9, -5, 0, 5, 9):
            self.check_parts((2, 0, 10, wide), (2, first, 10, [0] * 1024))
            self.check_parts((2, 0, 10, wide), (2, first, 1, [0, 0]))

    def test_cells_that_are_far_from_each_other(self):
        for signs, width in LONGEST.items():
            table = [0] * signs ** width
            table[-1] = 1
            self.check_parts((signs, -100, width, table), (signs, 101 - width, width, table))
            self.check_parts((signs, -100, 1, list(range(signs))), (signs, 100, 1, list(range(signs))))
            self.check_parts((signs, -100, width, table), (signs, 100, 1, [0] * signs))
            self.check_parts((signs, 60, 1, [0] * signs), (signs, -60, 1, [1] * signs))

    def test_rules_beside_each_other(self):
        self.check_parts((2, 0, 1, [0, 1]), (2, 1, 1, [0, 1]))
        self.check_parts((2, 0, 2, [0, 0, 1, 1]), (2, 1, 2, [0, 0, 1, 1]))
        self.check_parts((2, -1, 2, [0, 1, 1, 0]), (2, 1, 2, [0, 1, 1, 0]))

    def test_wrong_rules(self):
        for value in NOT_RULES:
            check_raises(self, errors.InvalidRule, parting_ring, value, ROAD)
            check_raises(self, errors.InvalidRule, parting_ring, ROAD, value)
            check_raises(self, errors.InvalidRule, composed, value, ROAD)
            check_raises(self, errors.InvalidRule, composed, ROAD, value)

    def test_unlike_signs_come_behind_wrong_rules(self):
        three = (3, 0, 1, [0, 1, 2])
        check_raises(self, errors.UnlikeSigns, parting_ring, ROAD, three)
        check_raises(self, errors.UnlikeSigns, parting_ring, three, ROAD)
        check_raises(self, errors.InvalidRule, parting_ring, three, (2, 0, 1, [0]))
        check_raises(self, errors.InvalidRule, parting_ring, (2, 0, 1, [0]), three)


class TestComposed(unittest.TestCase):

    def test_example(self):
        self.assertEqual(composed(SHIFT, SPREAD), (2, 1, 2, [0, 1, 1, 1]))

    def test_against_two_ticks(self):
        rules = some_rules(41, 45, 2)
        numbers = Numbers(43)
        for rule in rules:
            for later in rules:
                if rule[0] != later[0] or rule[0] ** (rule[2] + later[2] - 1) > 1024:
                    continue
                told = composed(rule, later)
                self.assertTrue(is_rule(told))
                self.assertEqual(told[:3], (rule[0], rule[1] + later[1], rule[2] + later[2] - 1))
                for cells in (1, 2, 9):
                    ring = numbers.signs(rule[0], cells)
                    self.assertEqual(plain_tick(told, ring), plain_tick(later, plain_tick(rule, ring)))

    def test_new_lists(self):
        for rule, later in ((ROAD, SHIFT), (SHIFT, ROAD), (SHIFT, SHIFT), (ROAD, ROAD)):
            check_fresh(self, composed, rule, later)
        self.assertEqual(composed(SHIFT, SHIFT), (2, 2, 1, [0, 1]))

    def test_the_order_of_both(self):
        turn, one = (2, 0, 1, [1, 0]), (2, 0, 2, [0, 1, 1, 1])
        self.assertEqual(composed(turn, one), (2, 0, 2, [1, 1, 1, 0]))
        self.assertEqual(composed(one, turn), (2, 0, 2, [1, 0, 0, 0]))

    def test_the_greatest_width(self):
        numbers = Numbers(47)
        for signs, width in LONGEST.items():
            for left in range(1, width + 1):
                right = width + 1 - left
                rule = (signs, -3, left, numbers.signs(signs, signs ** left))
                later = (signs, 2, right, numbers.signs(signs, signs ** right))
                told = check_fresh(self, composed, rule, later)
                self.assertEqual((told[:3], len(told[3])), ((signs, -1, width), signs ** width))
                ring = numbers.signs(signs, 40)
                self.assertEqual(plain_tick(told, ring), plain_tick(later, plain_tick(rule, ring)))
                wider = (signs, 2, right + 1, [0] * signs ** (right + 1)) if right < width else None
                if wider:
                    self.assertEqual(check_raises(self, errors.TooLarge, composed, rule, wider).limit, 1024)

    def test_far_above_the_greatest_width(self):
        wide = (2, 0, 10, [0] * 1024)
        self.assertEqual(check_raises(self, errors.TooLarge, composed, wide, wide).limit, 1024)

    def test_both_bounds_of_first(self):
        for first, later, width, fits in (
            (-50, -50, 1, True), (-50, -51, 1, False), (-100, 0, 1, True), (-100, -1, 1, False),
            (100, 0, 1, True), (100, 1, 1, False), (50, 50, 1, True), (50, 49, 2, True), (50, 50, 2, False),
            (-100, 100, 1, True), (-100, -100, 1, False), (99, 99, 2, False),
        ):
            rule, wide = (2, first, 1, [0, 1]), (2, later, width, [0] * (2 ** width - 1) + [1])
            if fits:
                self.assertEqual(composed(rule, wide), (2, first + later, width, wide[3]))
            else:
                self.assertEqual(check_raises(self, errors.TooLarge, composed, rule, wide).limit, 100)

    def test_the_words_count_ahead_of_first(self):
        wide = (2, 91, 10, [0] * 1024)
        self.assertEqual(check_raises(self, errors.TooLarge, composed, wide, wide).limit, 1024)
        low = (2, -100, 10, [0] * 1024)
        self.assertEqual(check_raises(self, errors.TooLarge, composed, low, low).limit, 1024)

    def test_unlike_signs(self):
        three = (3, 95, 6, [0] * 729)
        wide = (2, 91, 10, [0] * 1024)
        # Ahead of TooLarge, and behind the errors of parameters.
        check_raises(self, errors.UnlikeSigns, composed, wide, three)
        check_raises(self, errors.UnlikeSigns, composed, three, wide)
        check_raises(self, errors.InvalidRule, composed, three, (2, 0, 1, [0, 2]))
        check_raises(self, errors.InvalidRule, composed, wide, (2, 92, 10, [0] * 1024))


class TestMirrored(unittest.TestCase):

    def test_examples(self):
        self.assertEqual(mirrored(SPREAD), (2, -1, 2, [0, 1, 1, 1]))
        self.assertEqual(mirrored(ROAD), (2, -1, 3, [0, 1, 0, 0, 0, 1, 1, 1]))

    def test_it_does_the_same_with_left_and_right_exchanged(self):
        numbers = Numbers(53)
        for rule in some_rules(59, 60):
            told = check_fresh(self, mirrored, rule)
            self.assertTrue(is_rule(told))
            self.assertEqual(told[:3], (rule[0], 1 - rule[1] - rule[2], rule[2]))
            for cells in (1, 2, 3, 10):
                ring = numbers.signs(rule[0], cells)
                turned = [ring[-k % cells] for k in range(cells)]
                made = plain_tick(rule, ring)
                self.assertEqual(plain_tick(told, turned), [made[-k % cells] for k in range(cells)])

    def test_twice(self):
        numbers = Numbers(61)
        rules = some_rules(67, 30)
        for signs, width in LONGEST.items():
            for first in (-100, 101 - width):
                rules.append((signs, first, width, numbers.signs(signs, signs ** width)))
        for rule in rules:
            self.assertEqual(mirrored(mirrored(rule)), rule)

    def test_the_width_stays(self):
        self.assertEqual(mirrored((2, 5, 2, [1, 1, 1, 1])), (2, -6, 2, [1, 1, 1, 1]))
        self.assertEqual(mirrored((2, -100, 1, [0, 1])), (2, 100, 1, [0, 1]))
        self.assertEqual(mirrored((2, 99, 2, [0, 0, 1, 1])), (2, -100, 2, [0, 1, 0, 1]))

    def test_wrong_rules(self):
        for value in NOT_RULES:
            check_raises(self, errors.InvalidRule, mirrored, value)


if __name__ == "__main__":
    unittest.main()
