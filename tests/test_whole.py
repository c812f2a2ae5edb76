"""What the document promises over the whole program."""

import importlib
import unittest
from fractions import Fraction

from cellflows import errors
from cellflows.bands import Band
from cellflows.console import Console
from cellflows.counts import count_rings, counts_by_sum, nth_ring, ring_index
from cellflows.gains import (
    gain, greatest_gain, is_kept, kept_flow, least_gain, never_grows, passing, pulled, remainder,
)
from cellflows.marks import (
    keeps_marks, mark_after, mark_cells, mark_moves, moving_ring, possible_moves, speed,
)
from cellflows.means import (
    bottom_flow, bottom_ring, bounds_above, bounds_below, greatest_mean, least_mean, top_flow, top_ring,
)
from cellflows.rules import composed, is_ring, is_rule, mirrored, parting_ring, reduced, ticked
from cellflows.runs import cells_of, is_runs, normal_runs, runs_of, runs_sum, ticked_runs, unrolled
from cellflows.sights import count_fits, excluding, nth_fit, observed, sure_bounds
from cellflows.sizes import greatest_ring, greatest_sum, least_sum, reaches_top
from cellflows.texts import read_ring, read_rule, read_weight, show_ring, show_rule, show_weight
from cellflows.weights import added, apart_ring, divisor, is_weight, plain, sum_of
from tests.reckoning import ONES, RISES, ROAD, SHIFT, SPREAD, check_fresh, check_raises, lists_in

FAR = 10 ** 30
RING = [1, 1, 0, 1, 0, 0, 0]
RUNS = [(1, 2), (0, FAR), (1, 5), (1, 1)]

# The interface, each function with arguments for which it returns something.
CALLS = {
    "rules": (
        (is_rule, ROAD), (is_ring, 2, RING), (ticked, ROAD, RING, 3), (reduced, (2, -1, 2, [0, 0, 1, 1])), (reduced, ROAD),
        (parting_ring, ROAD, SPREAD), (composed, ROAD, SPREAD), (mirrored, ROAD),
    ),
    "weights": (
        (is_weight, RISES), (sum_of, RISES, RING), (plain, RISES), (plain, ONES), (divisor, RISES), (added, ONES, RISES, 3),
        (added, RISES, RISES, 0), (apart_ring, ONES, RISES),
    ),
    "means": (
        (greatest_mean, RISES), (least_mean, RISES), (top_ring, RISES), (bottom_ring, RISES), (top_flow, RISES), (bottom_flow, RISES),
        (bounds_above, RISES, (1, 2), [1, 0]), (bounds_below, RISES, (0, 1), [0, 0]),
    ),
    "gains": (
        (pulled, SPREAD, RISES), (pulled, SHIFT, ONES), (gain, ROAD, RISES), (greatest_gain, SPREAD, ONES, 2), (least_gain, SPREAD, ONES, 2),
        (is_kept, ROAD, ONES), (never_grows, ROAD, RISES), (remainder, ROAD, RISES), (kept_flow, ROAD, ONES), (passing, ROAD, ONES, RING),
    ),
    "sizes": ((greatest_sum, RISES, 9), (least_sum, RISES, 9), (greatest_ring, RISES, 9), (reaches_top, RISES, 9)),
    "counts": ((counts_by_sum, RISES, 9), (count_rings, RISES, 9, 2), (nth_ring, RISES, 9, 2, 7), (ring_index, RISES, RING)),
    "sights": (
        (observed, SPREAD, RISES, [1, 2, 3]), (count_fits, [(ONES, 2), (RISES, 1)], 6), (nth_fit, [(ONES, 2), (RISES, 1)], 6, 1),
        (sure_bounds, [(ONES, 2)], RISES, 6), (excluding, [(ONES, 2), (RISES, 1), (ONES, 3)], 6),
    ),
    "marks": (
        (mark_cells, 2, RING), (keeps_marks, ROAD), (mark_moves, ROAD, RING), (mark_after, ROAD, RING, 1, 9), (speed, ROAD, RING),
        (possible_moves, ROAD), (moving_ring, ROAD, 1),
    ),
    "runs": (
        (is_runs, 2, RUNS), (runs_of, 2, RING), (cells_of, 2, RUNS), (normal_runs, 2, RUNS), (unrolled, 2, [(1, 2), (0, 3)]),
        (runs_sum, RISES, RUNS), (ticked_runs, ROAD, RUNS, 4), (ticked_runs, ROAD, RUNS, 0),
    ),
    "texts": (
        (show_rule, ROAD), (show_weight, RISES), (show_ring, 2, RING), (read_rule, "2 -1 00011101"), (read_weight, "2 0 1 0 0"),
        (read_ring, 2, "1101000"),
    ),
}

NAMES = {
    "rules": "is_rule is_ring ticked reduced parting_ring composed mirrored",
    "weights": "is_weight sum_of plain divisor added apart_ring",
    "means": "greatest_mean least_mean top_ring bottom_ring top_flow bottom_flow bounds_above bounds_below",
    "gains": "pulled gain greatest_gain least_gain is_kept never_grows remainder kept_flow passing",
    "sizes": "greatest_sum least_sum greatest_ring reaches_top",
    "counts": "counts_by_sum count_rings nth_ring ring_index",
    "sights": "observed count_fits nth_fit sure_bounds excluding",
    "marks": "mark_cells keeps_marks mark_moves mark_after speed possible_moves moving_ring",
    "runs": "is_runs runs_of cells_of normal_runs unrolled runs_sum ticked_runs",
    "bands": "Band",
    "texts": "show_rule show_weight show_ring read_rule read_weight read_ring",
    "console": "Console",
}


class TestInterface(unittest.TestCase):

    def test_each_name_is_defined_in_its_own_file(self):
        for module, names in NAMES.items():
            for name in names.split():
                found = getattr(importlib.import_module(f"cellflows.{module}"), name)
                self.assertEqual((found.__module__, found.__name__), (f"cellflows.{module}", name))

    def test_each_function_is_called_here(self):
        for module, calls in CALLS.items():
            self.assertEqual({call[0].__name__ for call in calls}, set(NAMES[module].split()))


class TestLists(unittest.TestCase):

    def test_arguments_stay_and_lists_are_new(self):
        for calls in CALLS.values():
            for call in calls:
                self.assertIsNotNone(check_fresh(self, *call), call)

    def test_results_may_be_changed(self):
        for calls in CALLS.values():
            for function, *args in calls:
                result = function(*args)
                shown = repr(result)
                for one in lists_in(result):
                    one.append(1)
                self.assertEqual(repr(function(*args)), shown)

    def test_each_first_argument_of_no_kind(self):
        of_first = {
            "rule": errors.InvalidRule, "weight": errors.InvalidWeight, "signs": errors.InvalidSigns, "pairs": errors.InvalidPairs,
            "text": errors.InvalidText,
        }
        for calls in CALLS.values():
            for function, *args in calls:
                name = function.__code__.co_varnames[0]
                if name != "value":
                    for value in (None, True, 7, [], (), object()):
                        check_raises(self, of_first[name], function, value, *args[1:])


class TestValuesPassedOn(unittest.TestCase):

    def test_rules(self):
        rule = read_rule(show_rule(mirrored(mirrored(reduced(composed(ROAD, composed(SHIFT, ROAD)))))))
        self.assertIs(is_rule(rule), True)
        self.assertIsNone(parting_ring(rule, composed(ROAD, composed(ROAD, SHIFT))))
        self.assertEqual(ticked(rule, RING, 2), ticked(SHIFT, ticked(ROAD, RING, 4), 2))
        self.assertIs(keeps_marks(rule), True)
        band = Band(rule, RING)
        self.assertEqual(Band(band.rule, band.ring), band)
        self.assertEqual(ticked_runs(band.rule, runs_of(2, band.ring), 2), runs_of(2, band.after(2)))

    def test_weights(self):
        gained = gain(SPREAD, RISES)
        for weight in (gained, plain(gained), added(gained, pulled(ROAD, ONES), -FAR), observed(SPREAD, RISES, [0, 0, 0])[2][0]):
            self.assertIs(is_weight(weight), True)
            self.assertEqual(read_weight(show_weight(plain(weight))), plain(weight))
            for ring in (top_ring(weight), bottom_ring(weight), RING):
                total = sum_of(weight, ring)
                self.assertEqual(runs_sum(weight, runs_of(2, ring)), total)
                self.assertLessEqual(least_sum(plain(weight), len(ring)), total)
                self.assertGreaterEqual(greatest_sum(plain(weight), len(ring)), total)
                self.assertEqual(nth_ring(weight, len(ring), total, ring_index(weight, ring)), ring)
                fits = count_fits([(weight, total)], len(ring))
                self.assertEqual(fits, dict(counts_by_sum(weight, len(ring)))[total])
                self.assertEqual(fits, count_rings(weight, len(ring), total))
            self.assertIs(bounds_above(weight, greatest_mean(weight), top_flow(weight)), True)
            self.assertIs(bounds_below(weight, least_mean(weight), bottom_flow(weight)), True)

    def test_sums_of_one_size(self):
        for weight in (RISES, (3, 2, [0, 3, -1, 2, 2, 0, -5, 1, 1])):
            for cells in (1, 2, 7, 12 if weight[0] == 2 else 8):
                sums = [total for total, _ in counts_by_sum(weight, cells)]
                self.assertEqual((sums[0], sums[-1]), (least_sum(weight, cells), greatest_sum(weight, cells)))
                self.assertEqual(sure_bounds([(weight, sums[0])], weight, cells), (sums[0], sums[0]))
                self.assertEqual(reaches_top(weight, cells), Fraction(sums[-1], cells) == Fraction(*greatest_mean(weight)))
                self.assertEqual(nth_fit([(weight, sums[-1])], cells, 0), nth_ring(weight, cells, sums[-1], 0))
                self.assertIsNone(excluding([(weight, sum_of(weight, greatest_ring(weight, cells)))], cells))
                self.assertEqual(excluding([(weight, sums[-1] + 1)], cells), [0])

    def test_marks(self):
        ring, mark = moving_ring(ROAD, 1)
        self.assertEqual(mark_moves(ROAD, ring)[mark], 1)
        self.assertEqual(mark_after(ROAD, ring, mark, 1), ((mark_cells(2, ring)[mark] + 1) % len(ring), 1))
        self.assertEqual(sum(mark_moves(ROAD, ring)), sum(passing(ROAD, ONES, ring)))
        self.assertGreaterEqual(Fraction(*speed(ROAD, ring)), min(possible_moves(ROAD)))
        self.assertIs(is_kept(ROAD, ONES), keeps_marks(ROAD))

    def test_runs(self):
        runs = ticked_runs(ROAD, ticked_runs(SPREAD, [(1, FAR), (0, FAR), (1, 3)], 10), 10)
        self.assertIs(is_runs(2, runs), True)
        self.assertEqual(normal_runs(2, runs), runs)
        self.assertEqual(cells_of(2, runs), 2 * FAR + 3)
        self.assertEqual(runs_sum(ONES, runs), runs_sum(ONES, ticked_runs(ROAD, runs, 5)))
        self.assertEqual(unrolled(2, runs_of(2, RING)), RING)

    def test_a_console_and_a_band(self):
        console, band = Console(), Band(ROAD, RING)
        for command in (f"rule {show_rule(ROAD)}", f"weight {show_weight(RISES)}", f"ring {show_ring(2, RING)}"):
            self.assertEqual(console.execute(command), "ok")
        for _ in range(4):
            band.tick()
            self.assertEqual(read_ring(2, console.execute("tick")), band.ring)
            self.assertEqual(int(console.execute("gained")), band.gained(RISES))
        top, bottom = map(int, console.execute("top").split("/"))
        self.assertEqual((top, bottom), greatest_gain(ROAD, RISES, 1))
        self.assertEqual(band.ring, ticked(ROAD, RING, band.ticks))


if __name__ == "__main__":
    unittest.main()
