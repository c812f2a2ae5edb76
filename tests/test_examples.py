"""The examples of the document, as it prints them."""

import doctest
import unittest

SETTING = """
>>> road = (2, -1, 3, [0, 0, 0, 1, 1, 1, 0, 1])
>>> shift, spread = (2, 1, 1, [0, 1]), (2, 0, 2, [0, 1, 1, 1])
>>> ones, rises = (2, 1, [0, 1]), (2, 2, [0, 1, 0, 0])
"""

RULES = """
>>> from cellflows.rules import composed, mirrored, parting_ring, reduced, ticked
>>> [ticked(road, [1, 1, 0, 0], 1), ticked(road, [1, 1, 0, 0], 2), ticked(shift, [1, 0, 0], 10 ** 30)]
[[1, 0, 1, 0], [0, 1, 0, 1], [0, 0, 1]]
>>> [reduced((2, -1, 2, [0, 0, 1, 1])), reduced((2, 5, 2, [1, 1, 1, 1])), composed(shift, spread), mirrored(spread)]
[(2, -1, 1, [0, 1]), (2, 0, 1, [1, 1]), (2, 1, 2, [0, 1, 1, 1]), (2, -1, 2, [0, 1, 1, 1])]
>>> [parting_ring(composed(shift, spread), composed(spread, shift)), mirrored(road)]
[None, (2, -1, 3, [0, 1, 0, 0, 0, 1, 1, 1])]
"""

WEIGHTS = """
>>> from cellflows.weights import added, apart_ring, divisor, plain, sum_of
>>> falls = (2, 2, [0, 0, 1, 0])
>>> [sum_of(rises, [0, 1, 1, 0, 1]), plain(rises), plain((2, 2, [3, 3, 4, 4])), divisor((2, 2, [0, 3, 3, 0])), apart_ring(rises, falls)]
[2, (2, 2, [0, 0, 1, 0]), (2, 1, [3, 4]), 6, None]
>>> [added(ones, rises, 2), sum_of(rises, [1]), sum_of(rises, [0, 1])]
[(2, 2, [0, 2, 1, 1]), 0, 1]
"""


class TestExamples(unittest.TestCase):

    def check_examples(self, name, text):
        test = doctest.DocTestParser().get_doctest(SETTING + text, {}, name, None, 0)
        told = []
        result = doctest.DocTestRunner(verbose=False).run(test, out=told.append)
        self.assertGreater(result.attempted, 3)
        self.assertEqual(result.failed, 0, "".join(told))

    def test_rules(self):
        self.check_examples("rules", RULES)

    def test_weights(self):
        self.check_examples("weights", WEIGHTS)


if __name__ == "__main__":
    unittest.main()
