"""The examples of the document, as it prints them."""

import doctest
import os
import unittest

SETTING = """
>>> road = (2, -1, 3, [0, 0, 0, 1, 1, 1, 0, 1])
>>> shift, spread = (2, 1, 1, [0, 1]), (2, 0, 2, [0, 1, 1, 1])
>>> ones, rises = (2, 1, [0, 1]), (2, 2, [0, 1, 0, 0])
"""

RULES = """
>>> from cellflows.rules import composed, mirrored, parting_ring, reduced, ticked
>>> [ticked(road, [1, 1, 0, 0], 1), ticked(road, [1, 1, 0, 0], 2), ticked(shift, [1, 0, 0], 10 ** 30)]
[[1, 0, 1, 0], [0, 1, 0, 1], [0, 0, 1]]
>>> [reduced((2, -1, 2, [0, 0, 1, 1])), reduced((2, 5, 2, [1, 1, 1, 1])), composed(shift, spread), mirrored(spread)]
[(2, -1, 1, [0, 1]), (2, 0, 1, [1, 1]), (2, 1, 2, [0, 1, 1, 1]), (2, -1, 2, [0, 1, 1, 1])]
>>> [parting_ring(composed(shift, spread), composed(spread, shift)), mirrored(road)]
[None, (2, -1, 3, [0, 1, 0, 0, 0, 1, 1, 1])]
"""

WEIGHTS = """
>>> from cellflows.weights import added, apart_ring, divisor, plain, sum_of
>>> falls = (2, 2, [0, 0, 1, 0])
>>> [sum_of(rises, [0, 1, 1, 0, 1]), plain(rises), plain((2, 2, [3, 3, 4, 4])), divisor((2, 2, [0, 3, 3, 0])), apart_ring(rises, falls)]
[2, (2, 2, [0, 0, 1, 0]), (2, 1, [3, 4]), 6, None]
>>> [added(ones, rises, 2), sum_of(rises, [1]), sum_of(rises, [0, 1])]
[(2, 2, [0, 2, 1, 1]), 0, 1]
"""

MEANS = """
>>> from cellflows.means import bounds_above, greatest_mean, least_mean, top_ring
>>> [greatest_mean(rises), least_mean(rises), len(top_ring(rises)), greatest_mean((2, 1, [-3, -5]))]
[(1, 2), (0, 1), 2, (-3, 1)]
>>> [bounds_above(rises, (1, 2), [1, 0]), bounds_above(rises, (1, 2), [0, 0]), bounds_above(rises, (1, 1), [0, 0])]
[True, False, True]
"""

GAINS = """
>>> from cellflows.means import bounds_above
>>> from cellflows.gains import gain, greatest_gain, is_kept, kept_flow, least_gain, never_grows, passing, pulled
>>> [gain(spread, ones), greatest_gain(spread, ones, 1), least_gain(spread, ones, 1), greatest_gain(spread, ones, 2)]
[(2, 2, [0, 1, 0, 0]), (1, 2), (0, 1), (2, 3)]
>>> [bounds_above(gain(road, ones), (0, 1), [0, 0, 1, 0]), bounds_above(gain(road, ones), (0, 1), [0, 1, 0, 0])]
[True, False]
>>> [is_kept(road, ones), kept_flow(road, ones), passing(road, ones, [1, 1, 0, 0]), never_grows(road, rises), pulled(spread, ones)]
[True, [0, 0, 1, 0], [0, 0, 1, 0], False, (2, 2, [0, 1, 1, 1])]
"""

SIZES = """
>>> from cellflows.weights import sum_of
>>> from cellflows.sizes import greatest_ring, greatest_sum, least_sum, reaches_top
>>> [greatest_sum(rises, 5), greatest_sum(rises, 10 ** 18), least_sum(rises, 7), reaches_top(rises, 10 ** 18 - 1)]
[2, 500000000000000000, 0, False]
>>> sum_of(rises, greatest_ring(rises, 9))
4
"""


COUNTS = """
>>> from cellflows.counts import count_rings, counts_by_sum, nth_ring, ring_index
>>> [counts_by_sum(rises, 3), count_rings(ones, 60, 30), nth_ring(rises, 3, 1, 0), ring_index(rises, [1, 1, 0])]
[[(0, 2), (1, 6)], 118264581564861424, [0, 0, 1], 5]
"""

SIGHTS = """
>>> from cellflows.sights import count_fits, excluding, nth_fit, observed, sure_bounds
>>> seen = observed(spread, ones, [2, 3])
>>> [seen, count_fits(seen, 5), nth_fit(seen, 5, 0), sure_bounds([(ones, 2)], rises, 5), excluding([(ones, 2), (rises, 3)], 5)]
[[((2, 1, [0, 1]), 2), ((2, 2, [0, 1, 1, 1]), 3)], 5, [0, 0, 0, 1, 1], (1, 2), [1]]
"""

MARKS = """
>>> from cellflows.marks import keeps_marks, mark_after, mark_cells, mark_moves, possible_moves, speed
>>> mark_moves(shift, [1])
[-1]
>>> [keeps_marks(spread), mark_cells(3, [2, 0, 1]), mark_moves(road, [1, 1, 0, 0]), mark_after(road, [1, 1, 0, 0], 1, 2)]
[False, [0, 0, 2], [0, 1], (3, 2)]
>>> [possible_moves(road), possible_moves(shift), speed(road, [1, 1, 1, 0]), mark_after(shift, [0, 1, 0], 0, 10 ** 30)]
[[0, 1], [-1], (1, 3), (0, -1000000000000000000000000000000)]
"""

RUNS = """
>>> from cellflows.runs import cells_of, normal_runs, runs_of, runs_sum, ticked_runs, unrolled
>>> great = [(1, 10 ** 30), (0, 10 ** 30)]
>>> [runs_of(2, [0, 0, 1, 0]), cells_of(2, great), runs_sum(rises, great), ticked_runs(spread, great, 3)]
[[(0, 2), (1, 1), (0, 1)], 2000000000000000000000000000000, 1, [(1, 1000000000000000000000000000000), (0, 999999999999999999999999999997), (1, 3)]]
"""

BANDS = """
>>> from cellflows.bands import Band
>>> band = Band(road, [1, 1, 0, 0])
>>> [band.tick(), band.put(0, 0), band.ring, band.gained(ones), band.after(2), band.undo(), band.gained(ones), band.log, len(band)]
[None, None, [0, 0, 1, 0], -1, [1, 0, 0, 0], None, 0, [('tick',)], 1]
"""

TEXTS = """
>>> from cellflows.texts import read_ring, read_rule, read_weight, show_ring, show_rule, show_weight
>>> [show_rule(road), show_weight(rises), show_ring(2, [0, 1, 1]), read_weight("3 5 0 -7"), read_ring(3, "201")]
['2 -1 00011101', '2 0 1 0 0', '011', (3, 1, [5, 0, -7]), [2, 0, 1]]
"""

CONSOLE = """
>>> from cellflows.console import Console
>>> console = Console()
>>> [console.execute(one) for one in ["rule 2 -1 00011101", "ring 1100", "kept", "flow", "moves", "tick", "passing", "possible", "weight 2 0 1 0 0", "top", "undo"]]
['ok', 'ok', 'yes', '0 0 1 0', '0 1', '1010', '0 1 0 1', '0 1', 'ok', '1/4', '1100']
"""


class TestExamples(unittest.TestCase):

    def check_examples(self, name, text, setting=SETTING):
        test = doctest.DocTestParser().get_doctest(setting + text, {}, name, None, 0)
        told = []
        result = doctest.DocTestRunner(verbose=False).run(test, out=told.append)
        self.assertGreater(result.attempted, 3)
        self.assertEqual(result.failed, 0, "".join(told))

    def test_rules(self):
        self.check_examples("rules", RULES)

    def test_weights(self):
        self.check_examples("weights", WEIGHTS)

    def test_means(self):
        self.check_examples("means", MEANS)

    def test_gains(self):
        self.check_examples("gains", GAINS)

    def test_sizes(self):
        self.check_examples("sizes", SIZES)

    def test_counts(self):
        self.check_examples("counts", COUNTS)

    def test_sights(self):
        self.check_examples("sights", SIGHTS)

    def test_marks(self):
        self.check_examples("marks", MARKS)

    def test_runs(self):
        self.check_examples("runs", RUNS)

    def test_bands(self):
        self.check_examples("bands", BANDS)

    def test_texts(self):
        self.check_examples("texts", TEXTS)

    def test_console(self):
        self.check_examples("console", CONSOLE)

    def test_readme(self):
        path = os.path.join(os.path.dirname(os.path.dirname(os.path.abspath(__file__))), "README.md")
        with open(path, encoding="utf-8") as file:
            # What ends a block of examples would be read as a part of their last result.
            self.check_examples("readme", file.read().replace("```", ""), "")


if __name__ == "__main__":
    unittest.main()
