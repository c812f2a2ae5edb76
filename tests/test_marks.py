import unittest
from fractions import Fraction
from itertools import product

from cellflows import errors
from cellflows.gains import passing
from cellflows.marks import (
    keeps_marks, mark_after, mark_cells, mark_moves, moving_ring, possible_moves, speed,
)
from cellflows.rules import composed, is_ring, mirrored, ticked
from tests.reckoning import (
    GREAT, NOT_INTEGERS, NOT_RINGS, NOT_RULES, NOT_SIGNS, ODD_VALUES, ROAD, SHIFT, SPREAD,
    Numbers, check_fresh, check_raises, identity, packed_road, plain_tick, rings_up_to, some_rules,
    words,
)

OVER_RINGS = (mark_moves, speed)
FAR = 10 ** 30
FEW = {2: 8, 3: 5, 4: 4}


def numbering(signs):
    return (signs, 1, list(range(signs)))


def rule_of_flow(signs, width, own, flow):
    """The rule of so many cells by which so much passes at each border, by the word around it.

    The cell itself is the one with the number `own` of these; None if some cell would get too
    many marks or too few.
    """
    table = []
    for word in words(signs, width):
        left, right = word[:-1], word[1:]
        table.append(word[own] + flow[int("".join(map(str, left)), signs)] - flow[int("".join(map(str, right)), signs)])
    if min(table) < 0 or max(table) >= signs:
        return None
    return (signs, -own, width, table)


def rules_of_flows(signs, width, own, reach):
    found = [
        rule_of_flow(signs, width, own, [0] + list(rest))
        for rest in product(range(-reach, reach + 1), repeat=signs ** (width - 1) - 1)
    ]
    return [rule for rule in found if rule is not None]


FOUR_CELLS = rules_of_flows(2, 4, 1, 1)

# Roads to each side, marks that all go alike, and what small flows make.
KEEPING = (
    [ROAD, SHIFT, mirrored(ROAD), identity(2, 0), identity(2, -1), identity(2, 3), identity(3, -2), identity(4, 1)]
    + [packed_road(2), packed_road(3), packed_road(4), mirrored(packed_road(3)), packed_road(3, 1), packed_road(2, -4)]
    + [composed(ROAD, ROAD), composed(mirrored(ROAD), ROAD), composed(packed_road(3), mirrored(packed_road(3)))]
    + FOUR_CELLS + rules_of_flows(3, 2, 0, 2) + rules_of_flows(4, 2, 0, 3)
    + [composed(FOUR_CELLS[at], FOUR_CELLS[by]) for at, by in ((12, 12), (3, 3), (2, 12), (12, 15))]
)

# The gains of these have as many words as can be, or nearly as many.
WIDE = [
    identity(2, 9), identity(2, -9), identity(3, 5), identity(3, -5), identity(4, 4), identity(4, -4),
    composed(composed(ROAD, ROAD), composed(ROAD, ROAD)), composed(composed(ROAD, mirrored(ROAD)), composed(ROAD, SHIFT)),
    packed_road(4, -4), packed_road(4, 2), packed_road(3, -5), packed_road(3, 3), composed(packed_road(4), packed_road(4)),
]

NOT_KEEPING = [
    SPREAD, (2, 0, 1, [1, 0]), (2, 0, 1, [0, 0]), (2, 5, 1, [1, 1]), (3, 0, 1, [0, 2, 1]), (3, -1, 1, [0, 1, 1]),
    (4, 0, 1, [0, 1, 2, 2]), (2, -1, 3, [0, 0, 0, 1, 1, 1, 0, 0]), (2, 0, 10, [0] * 1024),
]

TOO_LARGE = [
    identity(2, 10), identity(2, -10), identity(3, 6), identity(3, -6), identity(4, 5), identity(4, -5), identity(2, 100),
    (2, -100, 10, [0] * 1024), packed_road(4, -5), packed_road(4, 3), (2, 50, 2, [1, 1, 1, 1]), (2, 1, 10, [0] * 1024),
]


def walked_moves(rule, ring):
    """The moves of all marks, each one on its walk by what passes the border on the left of its cell."""
    later, cells, moves = plain_tick(rule, ring), len(ring), []
    for cell, passed in enumerate(passing(rule, numbering(rule[0]), ring)):
        for ahead in range(ring[cell]):
            left, at = ahead + passed, cell
            if left >= 0:
                while later[at % cells] <= left:
                    left, at = left - later[at % cells], at + 1
            else:
                at = at - 1
                while later[at % cells] < -left:
                    left, at = left + later[at % cells], at - 1
            moves.append(at - cell)
    return moves


def followed(rule, ring, mark):
    """The cells of a mark, tick by tick, until the ring and the mark are again as they were, and since when."""
    cell, seen, path = mark_cells(rule[0], ring)[mark], {}, []
    while (tuple(ring), mark) not in seen:
        seen[(tuple(ring), mark)] = len(path)
        path.append(cell)
        move = walked_moves(rule, ring)[mark]
        passed = passing(rule, numbering(rule[0]), ring)[0]
        ring, cell, mark = plain_tick(rule, ring), cell + move, (mark + passed) % sum(ring)
    return path + [cell], seen[(tuple(ring), mark)]


def whole_move(path, since, ticks):
    if ticks < len(path):
        return path[ticks] - path[0]
    rounds, rest = divmod(ticks - since, len(path) - 1 - since)
    return path[since + rest] - path[0] + rounds * (path[-1] - path[since])


class TestMarkCells(unittest.TestCase):

    def test_example(self):
        self.assertEqual(mark_cells(3, [2, 0, 1]), [0, 0, 2])

    def test_marks_in_each_cell(self):
        for signs in (2, 3, 4):
            for ring in rings_up_to(signs, 4) + [Numbers(601).signs(signs, 512)]:
                told = check_fresh(self, mark_cells, signs, ring)
                self.assertEqual(told, sorted(told))
                self.assertEqual([told.count(cell) for cell in range(len(ring))], ring)
                self.assertEqual(len(told), sum(ring))

    def test_one_cell_and_no_marks(self):
        self.assertEqual(mark_cells(4, [3]), [0, 0, 0])
        self.assertEqual(mark_cells(2, [0]), [])
        self.assertEqual(mark_cells(4, [0] * 512), [])
        self.assertEqual(mark_cells(4, [3] * 512)[-4:], [510, 511, 511, 511])

    def test_wrong_arguments(self):
        for value in NOT_SIGNS:
            check_raises(self, errors.InvalidSigns, mark_cells, value, [0, 1])
            check_raises(self, errors.InvalidSigns, mark_cells, value, None)
        for value in NOT_RINGS:
            check_raises(self, errors.InvalidRing, mark_cells, 2, value)
        check_raises(self, errors.InvalidRing, mark_cells, 3, [0, 3])


class TestKeepsMarks(unittest.TestCase):

    def test_example(self):
        self.assertIs(keeps_marks(SPREAD), False)

    def test_rules_that_keep_marks(self):
        for rule in KEEPING + WIDE:
            self.assertIs(check_fresh(self, keeps_marks, rule), True)

    def test_rules_that_do_not(self):
        for rule in NOT_KEEPING:
            self.assertIs(check_fresh(self, keeps_marks, rule), False)

    def test_rules_that_do_so_but_at_one_word(self):
        for rule in KEEPING[::2] + WIDE:
            signs, first, width, table = rule
            for at in range(0, len(table), 1 + len(table) // 5):
                other = table[:at] + [(table[at] + 1) % signs] + table[at + 1:]
                self.assertIs(keeps_marks((signs, first, width, other)), False)

    def test_against_all_rings(self):
        for rule in some_rules(603, 90, 1) + KEEPING[::3]:
            if rule[2] < 4 and rule[0] ** (2 * rule[2] - 1) < 2000:
                gains = [sum(plain_tick(rule, ring)) - sum(ring) for ring in rings_up_to(rule[0], 2 * rule[2] - 1)]
                self.assertIs(keeps_marks(rule), not any(gains))

    def test_signs_that_change_places(self):
        # The number of cells with each sign stays, but that of the marks does not.
        self.assertIs(keeps_marks((3, 0, 1, [0, 2, 1])), False)
        self.assertIs(keeps_marks((3, 1, 1, [0, 1, 2])), True)

    def test_too_large(self):
        for rule in TOO_LARGE:
            self.assertEqual(check_raises(self, errors.TooLarge, keeps_marks, rule).limit, 1024)

    def test_wrong_arguments(self):
        for value in NOT_RULES:
            check_raises(self, errors.InvalidRule, keeps_marks, value)


class TestMarkMoves(unittest.TestCase):

    def test_examples(self):
        self.assertEqual(mark_moves(SHIFT, [1]), [-1])
        self.assertEqual(mark_moves(ROAD, [1, 1, 0, 0]), [0, 1])

    def check_moves(self, rule, ring):
        told = check_fresh(self, mark_moves, rule, ring)
        self.assertEqual(told, walked_moves(rule, ring))
        self.assertEqual(sum(told), sum(passing(rule, numbering(rule[0]), ring)))
        ends = [cell + move for cell, move in zip(mark_cells(rule[0], ring), told)]
        # No mark overtakes another one, on the way round neither, and they are where the signs tell.
        self.assertEqual(ends, sorted(ends))
        self.assertTrue(not ends or ends[-1] <= ends[0] + len(ring))
        later = plain_tick(rule, ring)
        self.assertEqual(sorted(end % len(ring) for end in ends), mark_cells(rule[0], later))

    def test_all_small_rings(self):
        for rule in KEEPING:
            for ring in rings_up_to(rule[0], 5 if rule[0] == 2 else 3):
                self.check_moves(rule, ring)

    def test_great_rings(self):
        numbers = Numbers(605)
        for rule in KEEPING[:16] + WIDE:
            for cells in (1, 2, 11, 30):
                self.check_moves(rule, numbers.signs(rule[0], cells))
        for rule in WIDE[::4]:
            self.check_moves(rule, numbers.signs(rule[0], 512))

    def test_one_cell(self):
        for first in (-9, -2, -1, 0, 1, 2, 9):
            self.assertEqual(mark_moves(identity(2, first), [1]), [-first])
        self.assertEqual(mark_moves(identity(4, -4), [3]), [4, 4, 4])
        self.assertEqual(mark_moves(ROAD, [1]), [0])
        self.assertEqual(mark_moves(packed_road(4), [3]), [0, 0, 0])

    def test_zeros(self):
        for rule in KEEPING + WIDE:
            for cells in (1, 2, 20):
                self.assertEqual(mark_moves(rule, [0] * cells), [])

    def test_all_cells_with_the_greatest_sign(self):
        for rule in KEEPING + WIDE:
            for cells in (1, 2, 5):
                self.check_moves(rule, [rule[0] - 1] * cells)
        self.assertEqual(mark_moves(SHIFT, [1] * 4), [-1] * 4)
        self.assertEqual(mark_moves(ROAD, [1] * 4), [0] * 4)

    def test_marks_that_go_round_more_than_once(self):
        self.assertEqual(mark_moves(identity(2, -9), [0, 1]), [9])
        self.assertEqual(mark_moves(identity(2, 9), [0, 1]), [-9])
        self.assertEqual(mark_moves(identity(2, -9), [0, 1, 1, 0]), [9, 9])
        self.assertEqual(mark_moves(identity(3, 5), [2, 0]), [-5, -5])

    def test_several_marks_in_a_cell(self):
        # The marks in one cell go apart, the last ones go furthest.
        self.assertEqual(mark_moves(packed_road(3), [2, 1, 0]), [0, 1, 1])
        self.assertEqual(mark_moves(packed_road(4), [3, 2, 0]), [0, 0, 1, 1, 1])
        self.assertEqual(mark_moves(mirrored(packed_road(3)), [0, 1, 2]), [-1, -1, 0])

    def test_wrong_arguments(self):
        for call in OVER_RINGS:
            for value in NOT_RULES:
                check_raises(self, errors.InvalidRule, call, value, [0, 1])
                check_raises(self, errors.InvalidRule, call, value, None)
            for value in NOT_RINGS:
                check_raises(self, errors.InvalidRing, call, ROAD, value)
                check_raises(self, errors.InvalidRing, call, SPREAD, value)
                check_raises(self, errors.InvalidRing, call, identity(2, 50), value)
            check_raises(self, errors.InvalidRing, call, packed_road(3), [0, 3])
            for ring in ([0], [1, 0, 1], [0] * 9):
                for rule in NOT_KEEPING[:4]:
                    check_raises(self, errors.NotKept, call, rule, ring)
                for rule in TOO_LARGE:
                    self.assertEqual(check_raises(self, errors.TooLarge, call, rule, ring).limit, 1024)


class TestMarkAfter(unittest.TestCase):

    def test_examples(self):
        self.assertEqual(mark_after(ROAD, [1, 1, 0, 0], 1, 2), (3, 2))
        self.assertEqual(mark_after(SHIFT, [0, 1, 0], 0, FAR), (0, -FAR))

    def test_no_tick(self):
        for rule in KEEPING[::4] + WIDE[::3]:
            ring = Numbers(607).signs(rule[0], 9)
            for mark, cell in enumerate(mark_cells(rule[0], ring)):
                self.assertEqual(check_fresh(self, mark_after, rule, ring, mark, 0), (cell, 0))

    def test_one_tick(self):
        for rule in KEEPING[::2] + WIDE:
            ring = Numbers(609).signs(rule[0], 7)
            cells, moves = mark_cells(rule[0], ring), mark_moves(rule, ring)
            for mark, move in enumerate(moves):
                self.assertEqual(mark_after(rule, ring, mark, 1), ((cells[mark] + move) % 7, move))

    def test_ticks_near_and_far(self):
        numbers = Numbers(611)
        for rule in KEEPING[:17] + KEEPING[17::3] + WIDE[::2]:
            for cells in (1, 2, 5, FEW[rule[0]]):
                ring = numbers.signs(rule[0], cells)
                for mark in range(0, sum(ring), 2):
                    path, since = followed(rule, ring, mark)
                    start = mark_cells(rule[0], ring)[mark]
                    for ticks in (2, 3, 10, 100, 101, 1000003, FAR - 1, FAR):
                        move = whole_move(path, since, ticks)
                        self.assertEqual(mark_after(rule, ring, mark, ticks), ((start + move) % cells, move))

    def test_a_hundred_ticks_of_great_rings(self):
        for rule in (ROAD, packed_road(4), identity(2, -9), composed(ROAD, ROAD)):
            for cells in (40, 512):
                ring = Numbers(613).signs(rule[0], cells)
                marks = list(range(sum(ring)))
                cell_of, number_now, now = mark_cells(rule[0], ring), marks, ring
                places = cell_of
                for _ in range(100):
                    moves = walked_moves(rule, now)
                    places = [place + moves[number] for place, number in zip(places, number_now)]
                    passed = passing(rule, numbering(rule[0]), now)[0]
                    number_now = [(number + passed) % len(marks) for number in number_now]
                    now = plain_tick(rule, now)
                for mark in (0, 1, len(marks) // 2, len(marks) - 1):
                    told = (places[mark] % cells, places[mark] - cell_of[mark])
                    self.assertEqual(mark_after(rule, ring, mark, 100), told)
                check_raises(self, errors.InvalidTicks, mark_after, rule, ring, 0, 101)

    def test_the_cell_has_a_mark_then(self):
        for rule in KEEPING[::3]:
            ring = Numbers(617).signs(rule[0], 6)
            for ticks in (5, 10 ** 29):
                cells = [mark_after(rule, ring, mark, ticks)[0] for mark in range(sum(ring))]
                self.assertEqual(sorted(cells), mark_cells(rule[0], ticked(rule, ring, ticks)))

    def test_the_most_rings_for_far_ticks(self):
        for signs, cells in ((2, 16), (3, 10), (4, 8)):
            ring = [0] * (cells - 1) + [1]
            self.assertEqual(mark_after(identity(signs, -1), ring, 0, FAR), ((FAR - 1) % cells, FAR))
            check_raises(self, errors.InvalidTicks, mark_after, identity(signs, -1), ring, 0, FAR + 1)
            check_raises(self, errors.InvalidTicks, mark_after, identity(signs, -1), ring + [0], 0, 101)
            self.assertEqual(mark_after(identity(signs, -1), ring + [0], 0, 100), ((99 + cells) % (cells + 1), 100))

    def test_wrong_arguments(self):
        for value in NOT_RULES:
            check_raises(self, errors.InvalidRule, mark_after, value, [0, 1], 0, 1)
            check_raises(self, errors.InvalidRule, mark_after, value, None, None, None)
        for value in NOT_RINGS:
            check_raises(self, errors.InvalidRing, mark_after, ROAD, value, 0, 1)
            check_raises(self, errors.InvalidRing, mark_after, SPREAD, value, None, None)
        for value in NOT_INTEGERS + (-1, 2, 3, GREAT):
            check_raises(self, errors.InvalidMark, mark_after, ROAD, [0, 1, 1], value, 1)
            check_raises(self, errors.InvalidMark, mark_after, SPREAD, [0, 1, 1], value, -1)
        check_raises(self, errors.InvalidMark, mark_after, ROAD, [0, 0], 0, 1)
        self.assertEqual(mark_after(packed_road(4), [0, 3], 2, 0), (1, 0))
        check_raises(self, errors.InvalidMark, mark_after, packed_road(4), [0, 3], 3, 0)
        for value in NOT_INTEGERS + (-1, FAR + 1, GREAT):
            check_raises(self, errors.InvalidTicks, mark_after, ROAD, [0, 1, 1], 0, value)
            check_raises(self, errors.InvalidTicks, mark_after, SPREAD, [0, 1, 1], 0, value)
            check_raises(self, errors.InvalidTicks, mark_after, identity(2, 30), [0, 1, 1], 0, value)
        for ticks in (0, 1, 100):
            for rule in NOT_KEEPING[:4]:
                check_raises(self, errors.NotKept, mark_after, rule, [0, 1], 0, ticks)
            for rule in TOO_LARGE:
                self.assertEqual(check_raises(self, errors.TooLarge, mark_after, rule, [0, 1], 0, ticks).limit, 1024)


class TestSpeed(unittest.TestCase):

    def test_example(self):
        self.assertEqual(speed(ROAD, [1, 1, 1, 0]), (1, 3))

    def test_each_mark_goes_so_far_in_the_long_run(self):
        numbers = Numbers(619)
        seen = set()
        for rule in KEEPING + WIDE[::2]:
            for cells in (1, 3, FEW[rule[0]]):
                ring = numbers.signs(rule[0], cells)
                told = check_fresh(self, speed, rule, ring)
                self.assertIs(type(told), tuple)
                if not any(ring):
                    self.assertEqual(told, (0, 1))
                    continue
                for mark in sorted({0, sum(ring) // 2, sum(ring) - 1}):
                    path, since = followed(rule, ring, mark)
                    mean = Fraction(path[-1] - path[since], len(path) - 1 - since)
                    self.assertEqual(told, (mean.numerator, mean.denominator))
                seen.add((told[0] > 0) - (told[0] < 0))
        self.assertEqual(seen, {1, 0, -1})

    def test_the_road(self):
        # If at most half of the cells have marks, each mark goes on at each tick, otherwise each gap does.
        for cells in (1, 2, 5, 9, 16):
            for marks in range(cells + 1):
                ring = [1] * marks + [0] * (cells - marks)
                mean = Fraction(0) if marks == 0 else min(Fraction(1), Fraction(cells - marks, marks))
                self.assertEqual(speed(ROAD, ring), (mean.numerator, mean.denominator))
                self.assertEqual(speed(mirrored(ROAD), ring), (-mean.numerator, mean.denominator))

    def test_without_marks(self):
        for rule in KEEPING + WIDE:
            for cells in (1, 2, 8):
                self.assertEqual(speed(rule, [0] * cells), (0, 1))

    def test_all_marks_together(self):
        for signs in (2, 3, 4):
            for first in (-3, 0, 2):
                for ring in ([signs - 1], [1, 0], [0, 1, signs - 1]):
                    self.assertEqual(speed(identity(signs, first), ring), (-first, 1))


class TestPossibleMoves(unittest.TestCase):

    def test_examples(self):
        self.assertEqual(possible_moves(ROAD), [0, 1])
        self.assertEqual(possible_moves(SHIFT), [-1])

    def test_against_small_rings(self):
        seen = set()
        for rule in KEEPING:
            told = check_fresh(self, possible_moves, rule)
            found = {move for ring in rings_up_to(rule[0], FEW[rule[0]]) for move in mark_moves(rule, ring)}
            self.assertEqual(told, sorted(found))
            seen.add(tuple(told))
        for told in ((0,), (2,), (-3,), (-2, -1), (0, 1, 2), (-1, 0, 1), (-2, -1, 0, 1), (-2, -1, 0, 1, 2), (-4, -3, -2, -1, 0)):
            self.assertIn(told, seen)

    def test_wide_rules(self):
        for at, told in enumerate(([-9], [9], [-5], [5], [-4], [4], [0, 1, 2, 3, 4])):
            self.assertEqual(check_fresh(self, possible_moves, WIDE[at]), told)
        numbers = Numbers(621)
        for rule in WIDE:
            told = possible_moves(rule)
            self.assertEqual(told, sorted(set(told)))
            for cells in (1, 2, 3, 20, 60, 512):
                self.assertLessEqual(set(mark_moves(rule, numbers.signs(rule[0], cells))), set(told))

    def test_where_the_rule_looks_moves_all_marks_alike(self):
        for rule in KEEPING[::2]:
            signs, first, width, table = rule
            for by in (-2, 1):
                told = [move - by for move in possible_moves(rule)]
                self.assertEqual(possible_moves((signs, first + by, width, table)), told)
            self.assertEqual(possible_moves(mirrored(rule)), [-move for move in possible_moves(rule)][::-1])

    def test_moves_that_small_rings_do_not_have(self):
        # Who waits in just one of four ticks has a mark ahead of it, and behind that one room enough.
        rule = WIDE[6]
        found = {move for ring in rings_up_to(2, 3) for move in mark_moves(rule, ring)}
        self.assertEqual(set(possible_moves(rule)) - found, {1, 3})

    def test_wrong_arguments(self):
        for value in NOT_RULES:
            check_raises(self, errors.InvalidRule, possible_moves, value)
        for rule in NOT_KEEPING:
            check_raises(self, errors.NotKept, possible_moves, rule)
        for rule in TOO_LARGE:
            self.assertEqual(check_raises(self, errors.TooLarge, possible_moves, rule).limit, 1024)


class TestMovingRing(unittest.TestCase):

    def test_each_possible_move(self):
        for rule in KEEPING + WIDE:
            for move in possible_moves(rule):
                told = check_fresh(self, moving_ring, rule, move)
                self.assertIs(type(told), tuple)
                ring, mark = told
                self.assertIs(is_ring(rule[0], ring), True)
                self.assertEqual(walked_moves(rule, ring)[mark], move)
                self.assertGreaterEqual(mark, 0)
                self.assertEqual(mark_moves(rule, ring)[mark], move)

    def test_no_other_move(self):
        for rule in KEEPING[::2] + WIDE[::3]:
            for move in range(-14, 15):
                self.assertEqual(moving_ring(rule, move) is None, move not in possible_moves(rule))
            for move in (-GREAT, GREAT, 513, -513):
                self.assertIsNone(moving_ring(rule, move))

    def test_any_other_value(self):
        for rule in (ROAD, identity(2, 0), identity(2, -1), identity(4, 1), packed_road(3)):
            for value in NOT_INTEGERS + tuple(value for value in ODD_VALUES if type(value) is not int):
                self.assertIsNone(moving_ring(rule, value), value)

    def test_wrong_arguments(self):
        for value in NOT_RULES:
            check_raises(self, errors.InvalidRule, moving_ring, value, 0)
            check_raises(self, errors.InvalidRule, moving_ring, value, None)
        for value in (0, 1, None, "1", GREAT):
            for rule in NOT_KEEPING:
                check_raises(self, errors.NotKept, moving_ring, rule, value)
            for rule in TOO_LARGE:
                self.assertEqual(check_raises(self, errors.TooLarge, moving_ring, rule, value).limit, 1024)


if __name__ == "__main__":
    unittest.main()
