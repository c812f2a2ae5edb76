import unittest

from cellflows import errors
from cellflows.bands import Band
from tests.reckoning import (
    GREAT, NOT_INTEGERS, NOT_RINGS, NOT_RULES, NOT_WEIGHTS, ODD_VALUES, ONES, RISES, ROAD, SHIFT, SPREAD,
    Numbers, check_fresh, check_raises, plain_sum, plain_tick, plain_ticks, some_rules, some_weights,
)

THREES = (3, 1, [0, 1, 2])


def state(band):
    """All that can be seen of a band."""
    return (band.rule, band.ring, band.ticks, band.log, len(band), band.gained((band.rule[0], 1, [7] + [9] * (band.rule[0] - 1))))


class Follower:
    """A plain reckoning of what a band does."""

    def __init__(self, rule, ring):
        self.rule, self.rings, self.log = rule, [list(ring)], []

    def make(self, call):
        ring = list(self.rings[-1])
        if call[0] == "tick":
            ring = plain_tick(self.rule, ring)
        elif call[0] == "put":
            ring[call[1]] = call[2]
        else:
            ring = [ring[(cell + call[1]) % len(ring)] for cell in range(len(ring))]
        self.rings.append(ring)
        self.log.append(call)

    def undo(self):
        self.rings.pop()
        self.log.pop()


def made(band, call):
    return getattr(band, call[0])(*call[1:])


def some_call(numbers, signs, cells):
    kind = numbers.below(3)
    if kind == 0:
        return ("tick",)
    if kind == 1:
        return ("put", numbers.below(cells), numbers.below(signs))
    return ("turn", (numbers.below(5) - 2) * 10 ** numbers.below(39) + numbers.below(9))


class TestBand(unittest.TestCase):

    def check_state(self, band, follower):
        self.assertEqual(band.rule, follower.rule)
        self.assertEqual(band.ring, follower.rings[-1])
        self.assertEqual(band.log, follower.log)
        self.assertEqual(len(band), len(follower.log))
        self.assertEqual(band.ticks, follower.log.count(("tick",)))
        for weight in some_weights(801, 9):
            if weight[0] == follower.rule[0]:
                self.assertEqual(band.total(weight), plain_sum(weight, follower.rings[-1]))
                gained = plain_sum(weight, follower.rings[-1]) - plain_sum(weight, follower.rings[0])
                self.assertEqual(band.gained(weight), gained)

    def test_example(self):
        band = Band(ROAD, [1, 1, 0, 0])
        self.assertIsNone(band.tick())
        self.assertIsNone(band.put(0, 0))
        self.assertEqual([band.ring, band.gained(ONES), band.after(2)], [[0, 0, 1, 0], -1, [1, 0, 0, 0]])
        self.assertIsNone(band.undo())
        self.assertEqual([band.gained(ONES), band.log, len(band)], [0, [("tick",)], 1])

    def test_a_new_band(self):
        for rule in (ROAD, SPREAD, (3, 5, 1, [2, 0, 1]), (4, -100, 2, [3] * 16)):
            for ring in ([0], [1, 0, 1], [0, 1] * 256):
                self.check_state(Band(rule, ring), Follower(rule, ring))

    def test_all_calls_and_taking_them_back(self):
        numbers = Numbers(803)
        for rule in some_rules(805, 24):
            cells = 1 + numbers.below(9)
            ring = numbers.signs(rule[0], cells)
            band, follower = Band(rule, ring), Follower(rule, ring)
            for _ in range(40):
                call = some_call(numbers, rule[0], cells)
                if numbers.below(4) == 0 and follower.log:
                    self.assertIsNone(band.undo())
                    follower.undo()
                else:
                    self.assertIsNone(made(band, call))
                    follower.make(call)
                self.check_state(band, follower)
            while follower.log:
                band.undo()
                follower.undo()
                self.check_state(band, follower)
            check_raises(self, errors.NothingToUndo, band.undo)
            self.check_state(band, follower)

    def test_a_hundred_calls(self):
        ring = Numbers(807).signs(2, 512)
        band, follower = Band(ROAD, ring), Follower(ROAD, ring)
        for at in range(100):
            call = (("tick",), ("put", 511, at % 2), ("turn", -at))[at % 3]
            made(band, call)
            follower.make(call)
        self.check_state(band, follower)
        for _ in range(100):
            band.undo()
        self.assertEqual((band.ring, band.log, len(band), band.ticks), (ring, [], 0, 0))

    def test_calls_that_change_nothing_are_calls_too(self):
        band = Band(ROAD, [0, 1])
        band.put(1, 1)
        band.turn(0)
        band.turn(2)
        self.assertEqual((band.ring, band.log, len(band)), ([0, 1], [("put", 1, 1), ("turn", 0), ("turn", 2)], 3))
        self.assertEqual({type(call) for call in band.log}, {tuple})

    def test_turn(self):
        for places, ring in (
            (0, [0, 1, 2, 3]), (1, [1, 2, 3, 0]), (3, [3, 0, 1, 2]), (4, [0, 1, 2, 3]), (-1, [3, 0, 1, 2]), (-5, [3, 0, 1, 2]),
            (10 ** 39 + 2, [2, 3, 0, 1]), (-10 ** 39 - 2, [2, 3, 0, 1]), (GREAT, [3, 0, 1, 2]),
        ):
            band = Band((4, 0, 1, [0, 1, 2, 3]), [0, 1, 2, 3])
            band.turn(places)
            self.assertEqual((band.ring, band.log), (ring, [("turn", places)]))
            band.undo()
            self.assertEqual(band.ring, [0, 1, 2, 3])

    def test_the_beginning_stays_as_it_was(self):
        band = Band(SPREAD, [0, 0, 0, 1])
        for gained in (1, 2, 3, 3):
            band.tick()
            self.assertEqual(band.gained(ONES), gained)
        band.put(0, 0)
        self.assertEqual((band.gained(ONES), band.total(ONES), band.gained(RISES)), (2, 3, 0))

    def test_after(self):
        for rule in some_rules(809, 20):
            ring = Numbers(811).signs(rule[0], 7)
            band = Band(rule, ring)
            band.tick()
            band.turn(3)
            kept = state(band)
            for ticks in (0, 1, 2, 7, 100):
                self.assertEqual(check_fresh(self, band.after, ticks), plain_ticks(rule, kept[1], ticks))
            self.assertEqual(state(band), kept)
            self.assertIsNot(band.after(0), band.after(0))

    def test_after_takes_a_hundred_ticks_at_most(self):
        # Also of small rings, which can be followed further elsewhere.
        band = Band(SHIFT, [1, 0, 0])
        self.assertEqual(band.after(100), [0, 0, 1])
        for value in NOT_INTEGERS + (-1, 101, 10 ** 30, GREAT):
            check_raises(self, errors.InvalidTicks, band.after, value)

    def test_twins(self):
        band = Band(ROAD, [1, 1, 0, 0])
        band.tick()
        band.put(0, 0)
        kept = state(band)
        twin = band.twin()
        self.assertIsInstance(twin, Band)
        self.assertIsNot(twin, band)
        self.assertEqual(state(twin), kept)
        twin.turn(1)
        twin.tick()
        self.assertEqual(state(band), kept)
        changed = state(twin)
        band.undo()
        band.undo()
        self.assertEqual(state(twin), changed)
        # The twin has the beginning, and can take back the calls that were made ahead of it.
        self.assertEqual(twin.gained(ONES), -1)
        for _ in range(4):
            twin.undo()
        self.assertEqual((twin.ring, twin.log), ([1, 1, 0, 0], []))
        check_raises(self, errors.NothingToUndo, twin.undo)
        self.assertEqual((band.ring, band.log), ([1, 1, 0, 0], []))

    def test_a_twin_of_a_twin(self):
        band = Band(SPREAD, [0, 0, 1])
        second = band.twin().twin()
        second.tick()
        third = second.twin()
        second.undo()
        self.assertEqual((band.ring, second.ring, third.ring), ([0, 0, 1], [0, 0, 1], [0, 1, 1]))

    def test_copies_are_kept(self):
        table, ring = [0, 0, 0, 1, 1, 1, 0, 1], [1, 1, 0, 0]
        band = Band((2, -1, 3, table), ring)
        table[0] = 1
        ring[0] = 0
        self.assertEqual((band.rule, band.ring), (ROAD, [1, 1, 0, 0]))
        self.assertEqual(band.gained(ONES), 0)
        band.tick()
        self.assertEqual(band.ring, [1, 0, 1, 0])

    def test_properties_are_new_lists_each_time(self):
        band = Band(ROAD, [1, 1, 0, 0])
        band.tick()
        for read in (lambda: band.rule[3], lambda: band.ring, lambda: band.log):
            first = read()
            self.assertIs(type(first), list)
            self.assertIsNot(first, read())
            first.clear()
            self.assertNotEqual(read(), [])
        self.assertEqual((band.rule, band.ring, band.log, band.ticks), (ROAD, [1, 0, 1, 0], [("tick",)], 1))
        band.undo()
        self.assertEqual(band.ring, [1, 1, 0, 0])

    def test_listed_names_stand_in_the_class(self):
        for name in ("tick", "put", "turn", "undo", "total", "gained", "after", "twin", "rule", "ring", "ticks", "log"):
            self.assertIn(name, vars(Band))
        self.assertEqual(Band.__module__, "cellflows.bands")
        for name in ("rule", "ring", "ticks", "log"):
            self.assertIsInstance(vars(Band)[name], property)


class TestEquality(unittest.TestCase):

    def test_rules_and_rings_now(self):
        band, other = Band(ROAD, [1, 0, 1]), Band(ROAD, [1, 0, 1])
        self.assertTrue(band == other)
        self.assertFalse(band != other)
        self.assertTrue(band == band)
        other.turn(1)
        self.assertFalse(band == other)
        self.assertTrue(band != other)
        other.turn(2)
        # What was ahead of the ring now does not count.
        self.assertTrue(band == other)
        self.assertTrue(band == band.twin())
        self.assertFalse(band == Band(ROAD, [1, 0, 1, 0]))

    def test_unlike_rules(self):
        for rule in (SHIFT, (2, 0) + ROAD[2:], (2, -1, 4, [0] * 16), (3, -1, 3, [0] * 27), ROAD[:3] + ([0] * 8,)):
            self.assertFalse(Band(ROAD, [1, 0, 1]) == Band(rule, [1, 0, 1]))
        # Rules that make the same of each ring are unlike all the same, if they are not equal.
        self.assertFalse(Band((2, 0, 1, [1, 1]), [0]) == Band((2, 5, 1, [1, 1]), [0]))

    def test_other_values(self):
        band = Band(ROAD, [1, 0, 1])
        for value in ODD_VALUES + ([1, 0, 1], ROAD, (ROAD, [1, 0, 1]), Band):
            self.assertIs(band == value, False)
            self.assertIs(band != value, True)
            self.assertIs(value == band, False)


class TestErrors(unittest.TestCase):

    def check_refused(self, band, error, call, *args):
        kept = state(band)
        check_raises(self, error, call, *args)
        self.assertEqual(state(band), kept)

    def test_making_a_band(self):
        for value in NOT_RULES:
            check_raises(self, errors.InvalidRule, Band, value, [0, 1])
            check_raises(self, errors.InvalidRule, Band, value, None)
        for value in NOT_RINGS:
            check_raises(self, errors.InvalidRing, Band, ROAD, value)
        check_raises(self, errors.InvalidRing, Band, (3, 0, 1, [0, 1, 2]), [3])

    def test_calls(self):
        for rule, ring in ((ROAD, [1, 0, 1]), ((3, 0, 1, [1, 2, 0]), [2, 0, 1])):
            band = Band(rule, ring)
            self.check_refused(band, errors.NothingToUndo, band.undo)
            band.tick()
            band.put(2, 1)
            for value in NOT_INTEGERS + (-1, 3, 512, GREAT, -GREAT):
                self.check_refused(band, errors.InvalidCell, band.put, value, 0)
                self.check_refused(band, errors.InvalidCell, band.put, value, None)
            for value in NOT_INTEGERS + (-1, rule[0], 4, GREAT, -GREAT):
                self.check_refused(band, errors.InvalidSign, band.put, 0, value)
                self.check_refused(band, errors.InvalidSign, band.put, 2, value)
            for value in NOT_INTEGERS:
                self.check_refused(band, errors.InvalidCells, band.turn, value)
            for value in NOT_INTEGERS + (-1, 101, GREAT):
                self.check_refused(band, errors.InvalidTicks, band.after, value)

    def test_sums(self):
        band = Band(ROAD, [1, 0, 1])
        band.tick()
        for call in (band.total, band.gained):
            for value in NOT_WEIGHTS:
                self.check_refused(band, errors.InvalidWeight, call, value)
            for weight in (THREES, (4, 2, [0] * 16)):
                self.check_refused(band, errors.UnlikeSigns, call, weight)
        check_raises(self, errors.UnlikeSigns, Band((3, 0, 1, [0, 1, 2]), [0, 1]).total, ONES)

    def test_all_cells_and_signs_can_be_put(self):
        for signs in (2, 3, 4):
            for cells in (1, 2, 5):
                for cell in range(cells):
                    for sign in range(signs):
                        band = Band((signs, 0, 1, [0] * signs), [0] * cells)
                        band.put(cell, sign)
                        self.assertEqual(band.ring, [0] * cell + [sign] + [0] * (cells - cell - 1))


if __name__ == "__main__":
    unittest.main()
