import unittest

from cellflows import errors

PLAIN_NAMES = (
    "InvalidRule", "InvalidWeight", "InvalidRing", "InvalidRuns", "InvalidSigns", "InvalidPairs",
    "InvalidMean", "InvalidCells", "InvalidTicks", "InvalidTotal", "InvalidIndex", "InvalidMark",
    "InvalidCell", "InvalidSign", "InvalidCommand", "UnlikeSigns", "NotKept", "NotFitting",
    "NothingToUndo",
)
FIELD_NAMES = ("TooLarge", "InvalidText")


class TestErrors(unittest.TestCase):

    def test_flow_error_is_directly_below_value_error(self):
        self.assertEqual(errors.FlowError.__bases__, (ValueError,))

    def test_each_error_is_directly_below_flow_error(self):
        for name in PLAIN_NAMES + FIELD_NAMES:
            with self.subTest(name=name):
                self.assertEqual(getattr(errors, name).__bases__, (errors.FlowError,))

    def test_each_error_is_a_class_of_its_own_in_this_file(self):
        found = [getattr(errors, name) for name in ("FlowError",) + PLAIN_NAMES + FIELD_NAMES]
        self.assertEqual(len(set(found)), 22)
        for one in found:
            self.assertEqual(one.__module__, "cellflows.errors")

    def test_plain_errors_are_made_with_one_string(self):
        for name in PLAIN_NAMES + ("FlowError",):
            with self.subTest(name=name):
                error = getattr(errors, name)("what is wrong")
                self.assertEqual(str(error), "what is wrong")
                self.assertEqual(error.args, ("what is wrong",))

    def test_too_large_keeps_its_limit(self):
        for limit in (16, 60, 100, 512, 1024):
            self.assertEqual(errors.TooLarge(limit).limit, limit)

    def test_invalid_text_keeps_its_place(self):
        for place in (None, 0, 3):
            self.assertEqual(errors.InvalidText(place).place, place)

    def test_errors_can_be_raised_and_caught_as_value_errors(self):
        for one in (errors.TooLarge(16), errors.InvalidText(None), errors.NotKept("no")):
            with self.assertRaises(ValueError) as caught:
                raise one
            self.assertIs(caught.exception, one)


if __name__ == "__main__":
    unittest.main()
