import unittest

from cellflows import errors
from cellflows.texts import read_ring, read_rule, read_weight, show_ring, show_rule, show_weight
from tests.reckoning import (
    GREAT, LONGEST, NOT_RINGS, NOT_RULES, NOT_SIGNS, NOT_WEIGHTS, RISES, ROAD, Numbers, check_fresh,
    check_raises, fulls, rings_up_to, some_rules, some_weights,
)

NOT_STRINGS = (
    None, True, False, 0, 2, -1, 10 ** 40, b"2 0 01", b"", [], ["2", "0", "01"], (), ("2 0 01",), {}, {"2": "0"}, set(),
    object(), str, ROAD, RISES,
)

# What is no number in texts.
NOT_NUMBERS = (
    "", "-", "+1", "+0", "-0", "00", "01", "-01", "007", "1.0", "1e3", "1_0", "0x1", "--1", "1-", "a", "x", "1x", "x1", "one", "\n", "1\n",
    "\n1", "1,", "-\n1", "1" * 41, "-" + "1" * 41, "0" * 40, "1" * 4000,
)
NUMBERS = ("0", "1", "-1", "9", "10", "-10", "1" * 40, "-" + "9" * 40)


class TestShow(unittest.TestCase):

    def test_examples(self):
        self.assertEqual(show_rule(ROAD), "2 -1 00011101")
        self.assertEqual(show_weight(RISES), "2 0 1 0 0")
        self.assertEqual(show_ring(2, [0, 1, 1]), "011")

    def test_rules(self):
        for rule in some_rules(901, 60, 90):
            signs, first, _, table = rule
            if -100 <= first <= 101 - rule[2]:
                told = check_fresh(self, show_rule, rule)
                self.assertEqual(told.split(" "), [str(signs), str(first), "".join(map(str, table))])
        self.assertEqual(show_rule((4, 0, 1, [3, 2, 1, 0])), "4 0 3210")
        self.assertEqual(show_rule((3, -100, 1, [2, 2, 2])), "3 -100 222")

    def test_weights(self):
        for weight in some_weights(903, 40) + fulls(905, GREAT):
            told = check_fresh(self, show_weight, weight)
            self.assertEqual([int(word) for word in told.split(" ")], [weight[0]] + weight[2])
        self.assertEqual(show_weight((3, 1, [0, -5, GREAT])), "3 0 -5 " + "9" * 40)

    def test_rings(self):
        for signs in (2, 3, 4):
            for ring in rings_up_to(signs, 3) + [Numbers(907).signs(signs, 512)]:
                self.assertEqual(check_fresh(self, show_ring, signs, ring), "".join(map(str, ring)))

    def test_wrong_arguments(self):
        for value in NOT_RULES:
            check_raises(self, errors.InvalidRule, show_rule, value)
        for value in NOT_WEIGHTS:
            check_raises(self, errors.InvalidWeight, show_weight, value)
        for value in NOT_SIGNS:
            check_raises(self, errors.InvalidSigns, show_ring, value, [0, 1])
            check_raises(self, errors.InvalidSigns, show_ring, value, None)
        for value in NOT_RINGS:
            check_raises(self, errors.InvalidRing, show_ring, 2, value)
        check_raises(self, errors.InvalidRing, show_ring, 3, [3])


class TestReadBack(unittest.TestCase):

    def test_example(self):
        self.assertEqual(read_weight("3 5 0 -7"), (3, 1, [5, 0, -7]))
        self.assertEqual(read_ring(3, "201"), [2, 0, 1])

    def test_rules(self):
        rules = some_rules(911, 90, 90)
        for signs, width in LONGEST.items():
            for first in (-100, 0, 101 - width):
                rules.append((signs, first, width, Numbers(913).signs(signs, signs ** width)))
        for rule in rules:
            if -100 <= rule[1] <= 101 - rule[2]:
                self.assertEqual(check_fresh(self, read_rule, show_rule(rule)), rule)

    def test_weights(self):
        for weight in some_weights(915, 90) + fulls(917, 9) + [(2, 1, [GREAT, -GREAT])]:
            self.assertEqual(check_fresh(self, read_weight, show_weight(weight)), weight)

    def test_rings(self):
        for signs in (2, 3, 4):
            for ring in rings_up_to(signs, 4) + [Numbers(919).signs(signs, 512)]:
                self.assertEqual(check_fresh(self, read_ring, signs, show_ring(signs, ring)), ring)


class TestRead(unittest.TestCase):

    def check_place(self, place, call, *args):
        error = check_raises(self, errors.InvalidText, call, *args)
        self.assertEqual(error.place, place, args)

    def test_what_is_no_string(self):
        for value in NOT_STRINGS:
            for call in (read_rule, read_weight):
                self.assertIsNone(check_raises(self, errors.InvalidText, call, value).place)
            for signs in (2, 3, 4):
                self.assertIsNone(check_raises(self, errors.InvalidText, read_ring, signs, value).place)

    def test_numbers(self):
        for word in NUMBERS:
            self.assertEqual(read_weight(f"2 {word} 5"), (2, 1, [int(word), 5]))
            self.assertEqual(read_weight(f"2 5 {word}"), (2, 1, [5, int(word)]))
        for word in ("0", "1", "-1", "-100", "100", "99", "-42"):
            self.assertEqual(read_rule(f"2 {word} 01"), (2, int(word), 1, [0, 1]))

    def test_words_that_are_no_numbers(self):
        for word in NOT_NUMBERS:
            self.check_place(1, read_weight, f"2 {word} 5")
            self.check_place(2, read_weight, f"2 5 {word}")
            self.check_place(5, read_weight, f"2 5 0 1 -3 {word}")
            self.check_place(1, read_rule, f"2 {word} 01")
            self.check_place(1, read_rule, f"2 {word}")
            self.check_place(1, read_rule, f"4 {word} 09 7")

    def test_numbers_of_signs(self):
        for signs in (2, 3, 4):
            self.assertEqual(read_weight(" ".join([str(signs)] + ["7"] * signs))[0], signs)
        for word in ("", "0", "1", "5", "10", "22", "-2", "+2", "02", "2.0", "a", "2\n", "\n2", "two", "2" * 41):
            self.check_place(0, read_weight, f"{word} 0 1")
            self.check_place(0, read_weight, word)
            self.check_place(0, read_rule, f"{word} 0 01")
            self.check_place(0, read_rule, f"{word} x 09 z")
            self.check_place(0, read_rule, word)

    def test_items_that_are_no_signs(self):
        for word in ("", "2", "02", "0a", "-1", "0-1", "0,1", "01\n", "+01", "0x", "012", "9" * 50, "0" * 2048 + "2"):
            self.check_place(2, read_rule, f"2 0 {word}")
            self.check_place(0, read_ring, 2, word)
        for signs, wrong in ((2, "0123"), (3, "3012"), (4, "01234")):
            self.check_place(2, read_rule, f"{signs} 0 {wrong}")
            self.check_place(0, read_ring, signs, wrong)

    def test_words_behind_the_last_one(self):
        for more in ("", "0", "01", "x", "2 0 01", " ", "\n"):
            self.check_place(3, read_rule, f"2 0 01 {more}")
            self.check_place(3, read_rule, f"2 500 011 {more}")
            self.check_place(1, read_ring, 2, f"01 {more}")
            self.check_place(1, read_ring, 2, "0" * 513 + f" {more}")

    def test_spaces(self):
        self.check_place(0, read_rule, "")
        self.check_place(0, read_rule, " ")
        self.check_place(0, read_rule, " 2 0 01")
        self.check_place(1, read_rule, "2  0 01")
        self.check_place(2, read_rule, "2 0  01")
        self.check_place(3, read_rule, "2 0 01 ")
        self.check_place(0, read_weight, "")
        self.check_place(0, read_weight, " 2 0 1")
        self.check_place(1, read_weight, "2  0 1")
        self.check_place(3, read_weight, "2 0 1 ")
        self.check_place(1, read_weight, "2 ")
        self.check_place(0, read_ring, 2, "")
        self.check_place(0, read_ring, 2, " ")
        self.check_place(0, read_ring, 2, " 01")
        self.check_place(1, read_ring, 2, "01 ")

    def test_too_few_words(self):
        self.check_place(1, read_rule, "2")
        self.check_place(2, read_rule, "2 0")
        self.check_place(2, read_rule, "4 -1000")
        self.check_place(1, read_weight, "2")
        self.check_place(2, read_weight, "3 0")
        self.check_place(3, read_weight, "3 0 1")

    def test_numbers_out_of_range(self):
        for text in ("2 -101 01", "2 101 01", "2 100 0111", "2 -" + "9" * 40 + " 01", "2 " + "9" * 40 + " 01", "3 99 " + "0" * 27):
            self.check_place(3, read_rule, text)

    def test_numbers_of_items(self):
        for items in (1, 3, 5, 6, 7, 9, 1023, 1025, 2048):
            self.check_place(3, read_rule, "2 0 " + "0" * items)
        for signs, items in ((3, 1), (3, 2), (3, 4), (3, 8), (3, 6), (3, 2187), (4, 2), (4, 8), (4, 32), (4, 1023), (4, 3500)):
            self.check_place(3, read_rule, f"{signs} 0 " + "0" * items)

    def test_numbers_of_values(self):
        for signs, many in ((2, 1), (2, 3), (2, 5), (2, 1023), (2, 1025), (2, 1500), (3, 2), (3, 4), (3, 6), (4, 2), (4, 8), (4, 1000)):
            self.check_place(many + 1, read_weight, " ".join([str(signs)] + ["0"] * many))
        self.check_place(2049, read_weight, " ".join(["2"] + ["0"] * 2048))

    def test_numbers_of_cells(self):
        for signs in (2, 3, 4):
            self.assertEqual(read_ring(signs, "1" * 512), [1] * 512)
            for cells in (513, 514, 1024, 3999):
                self.check_place(1, read_ring, signs, "1" * cells)

    def test_wrong_signs(self):
        for value in NOT_SIGNS:
            for text in ("01", "", None, 5):
                check_raises(self, errors.InvalidSigns, read_ring, value, text)


if __name__ == "__main__":
    unittest.main()
