import unittest

from cellflows import errors
from cellflows.bands import Band
from cellflows.console import Console
from cellflows.gains import greatest_gain, is_kept, kept_flow, least_gain, passing
from cellflows.marks import mark_moves, possible_moves
from cellflows.texts import show_ring, show_rule, show_weight
from tests.reckoning import (
    GREAT, ODD_VALUES, ONES, RISES, ROAD, SHIFT, SPREAD, Numbers, check_raises, identity, packed_road,
    some_rules, some_weights,
)

ASKING = ("show", "total", "gained", "top", "bottom", "kept", "flow", "passing", "moves", "possible")
ROAD_TEXT = "2 -1 00011101"


def joined(items):
    return " ".join(str(item) for item in items) or "none"


def told(console):
    """All that a console answers without being changed, errors too."""
    answers = []
    for command in ASKING:
        try:
            answers.append(console.execute(command))
        except errors.FlowError as error:
            answers.append((type(error), getattr(error, "limit", None)))
    return answers


def steps_back(console):
    """The rings that a console comes back to, until nothing is left that can be taken back."""
    rings = []
    while True:
        try:
            rings.append(console.execute("undo"))
        except errors.NothingToUndo:
            return rings


def console_with(*commands):
    console = Console()
    for command in commands:
        console.execute(command)
    return console


def console_of(rule, weight, ring):
    signs = rule[0]
    return console_with(f"rule {show_rule(rule)}", f"weight {show_weight(weight)}", f"ring {show_ring(signs, ring)}")


class TestCommands(unittest.TestCase):

    def check_answers(self, console, pairs):
        for command, answer in pairs:
            self.assertEqual(console.execute(command), answer, command)

    def test_example(self):
        self.check_answers(Console(), [
            ("rule 2 -1 00011101", "ok"), ("ring 1100", "ok"), ("kept", "yes"), ("flow", "0 0 1 0"), ("moves", "0 1"),
            ("tick", "1010"), ("passing", "0 1 0 1"), ("possible", "0 1"), ("weight 2 0 1 0 0", "ok"), ("top", "1/4"),
            ("undo", "1100"),
        ])

    def test_what_a_console_has_at_first(self):
        self.check_answers(Console(), [
            ("show", "0"), ("total", "0"), ("gained", "0"), ("top", "0/1"), ("bottom", "0/1"), ("kept", "yes"), ("flow", "0"),
            ("passing", "0"), ("moves", "none"), ("possible", "0"), ("tick", "0"), ("put 0 1", "1"), ("total", "1"),
            ("gained", "1"), ("moves", "0"), ("undo", "0"), ("undo", "0"),
        ])
        check_raises(self, errors.NothingToUndo, Console().execute, "undo")

    def test_answers_are_those_of_the_functions(self):
        numbers = Numbers(1001)
        weights = some_weights(1003, 60)
        kept = [(ROAD, ONES), (SHIFT, RISES), (packed_road(3), (3, 1, [0, 1, 2])), (identity(4, -3), (4, 1, [5, -5, 0, 1]))]
        pairs = [(rule, weight) for rule, weight in zip(some_rules(1005, 60), weights) if rule[0] == weight[0]]
        for rule, weight in kept + pairs[::2]:
            ring = numbers.signs(rule[0], 1 + numbers.below(9))
            console, band = console_of(rule, weight, ring), Band(rule, ring)
            for _ in range(2):
                self.check_answers(console, [
                    ("show", show_ring(rule[0], band.ring)), ("total", str(band.total(weight))), ("gained", str(band.gained(weight))),
                ])
                for command, call, args, shown in (
                    ("top", greatest_gain, (rule, weight, 1), lambda mean: f"{mean[0]}/{mean[1]}"),
                    ("bottom", least_gain, (rule, weight, 1), lambda mean: f"{mean[0]}/{mean[1]}"),
                    ("kept", is_kept, (rule, weight), lambda found: "yes" if found else "no"),
                    ("flow", kept_flow, (rule, weight), joined), ("passing", passing, (rule, weight, band.ring), joined),
                    ("moves", mark_moves, (rule, band.ring), joined), ("possible", possible_moves, (rule,), joined),
                ):
                    try:
                        answer = shown(call(*args))
                    except errors.FlowError as error:
                        check_raises(self, type(error), console.execute, command)
                    else:
                        self.assertEqual(console.execute(command), answer)
                self.assertEqual(console.execute("tick"), show_ring(rule[0], band.after(1)))
                band.tick()

    def test_calls_of_the_band(self):
        self.check_answers(console_with("rule 2 0 0111", "ring 00010"), [
            ("tick", "00110"), ("gained", "1"), ("put 4 1", "00111"), ("gained", "2"), ("turn 2", "11100"), ("turn -1", "01110"),
            ("turn 0", "01110"), (f"turn {'9' * 40}", "00111"), ("undo", "01110"), ("undo", "01110"),
            ("undo", "11100"), ("undo", "00111"), ("undo", "00110"), ("total", "2"), ("undo", "00010"), ("gained", "0"),
        ])

    def test_a_rule_makes_a_new_band(self):
        console = console_with(f"rule {ROAD_TEXT}", "ring 1100", "tick", "put 0 0")
        self.check_answers(console, [("rule 2 0 0111", "ok"), ("show", "0"), ("total", "0"), ("gained", "0")])
        check_raises(self, errors.NothingToUndo, console.execute, "undo")
        self.check_answers(console, [("ring 01", "ok"), ("tick", "11")])

    def test_a_ring_makes_a_new_band_of_the_same_rule(self):
        console = console_with("rule 2 0 0111", "ring 0001", "tick")
        self.check_answers(console, [("gained", "1"), ("ring 1000", "ok"), ("gained", "0"), ("show", "1000")])
        check_raises(self, errors.NothingToUndo, console.execute, "undo")
        self.check_answers(console, [("tick", "1001"), ("gained", "1")])

    def test_a_rule_with_as_many_signs_leaves_the_weight(self):
        console = console_with("weight 2 0 5", f"rule {ROAD_TEXT}", "ring 0111")
        self.check_answers(console, [("total", "15"), ("rule 2 0 10", "ok"), ("ring 0111", "ok"), ("total", "15")])

    def test_a_rule_with_another_number_of_signs_makes_the_weight_anew(self):
        console = console_with("weight 2 7 5")
        for signs, ring, total in ((3, "0122", "5"), (4, "0123", "6"), (2, "0111", "3")):
            self.check_answers(console, [
                (f"rule {signs} 0 {'0' * signs}", "ok"), (f"ring {ring}", "ok"), ("total", total),
                (f"weight {' '.join([str(signs)] + ['9'] * signs)}", "ok"), ("total", str(9 * len(ring))),
            ])

    def test_a_weight_leaves_the_band(self):
        console = console_with("rule 2 0 0111", "ring 0001", "tick")
        self.check_answers(console, [("weight 2 0 1 0 0", "ok"), ("show", "0011"), ("total", "1"), ("gained", "0"), ("undo", "0001")])

    def test_means(self):
        self.check_answers(console_with("rule 2 0 0111"), [("top", "1/2"), ("bottom", "0/1")])
        self.check_answers(console_with("rule 2 0 10", "weight 2 0 6"), [("top", "6/1"), ("bottom", "-6/1")])
        self.check_answers(console_with("rule 2 0 0001"), [("top", "0/1"), ("bottom", "-1/2"), ("kept", "no")])

    def test_lists(self):
        self.check_answers(console_with(f"rule {ROAD_TEXT}", "ring 000"), [("moves", "none"), ("passing", "0 0 0"), ("possible", "0 1")])
        self.check_answers(console_with("rule 2 1 01", "ring 101"), [("moves", "-1 -1"), ("passing", "-1 0 -1"), ("flow", "0 -1"), ("possible", "-1")])

    def test_great_numbers(self):
        console = console_with(f"weight 2 -{'9' * 40} {'9' * 40}", f"ring {'1' * 512}")
        self.check_answers(console, [("total", str(512 * GREAT)), ("put 511 0", "1" * 511 + "0"), ("gained", str(-2 * GREAT))])


class TestRefused(unittest.TestCase):

    def setUp(self):
        self.console = console_with("rule 2 0 0111", "weight 2 3 4", "ring 0001", "tick", "put 0 1")

    def check_refused(self, error, command, console=None):
        """The command raises the error, and nothing is another thing behind it."""
        console = console or self.console
        before = told(console)
        raised = check_raises(self, error, console.execute, command)
        self.assertEqual(told(console), before)
        return raised

    def tearDown(self):
        # What could be taken back can still be.
        self.assertEqual(told(self.console)[:3], ["1011", "15", "2"])
        self.assertEqual(steps_back(self.console), ["0011", "0001"])

    def test_values_that_are_no_strings(self):
        for value in ODD_VALUES + (["show"], ("show",), b"show", {"show": 1}):
            if not isinstance(value, str):
                self.check_refused(errors.InvalidCommand, value)

    def test_commands_of_no_form(self):
        for command in (
            "", " ", "x", "Show", "SHOW", "show ", " show", "show x", "show show", "\nshow", "show\n", "total 1", "gained ", "top 1",
            "bottom ", "kept yes", "flow 0", "passing 0", "moves ", "possible  ", "tick ", "tick 1", " tick", "ticks", "tick tick",
            "undo ", "undo 1", "undo undo", "put", "put ", "put 0", "put 0 ", "put 0 1 ", "put 0 1 2", "put  0 1", "put 0  1",
            "put 0 x", "put x 0", "put 00 1", "put 0 +1", "put 0 -0", "put 0 01", "put 0,1", "put(0, 1)", "put 0 1\n", "put\n0 1",
            "turn", "turn ", "turn x", "turn 1 2", "turn  1", "turn 1 ", "turn +1", "turn -0", "turn 01", "turn --1", "turn -",
            "turn " + "1" * 41, "put 0 " + "1" * 41, "put " + "1" * 41 + " 0", "turn 1.0", "rule", "ring", "weight", "rules 2 0 01",
            "Rule 2 0 01", " rule 2 0 01", "rule\n2 0 01", "ring\t01", "weight2 0 1", "2 0 01", "after 1", "twin", "log", "ticks 1",
            "None", "x" * 4000, "rule" + "x" * 10,
        ):
            self.check_refused(errors.InvalidCommand, command)

    def test_errors_of_the_band(self):
        for command in ("put 4 0", "put -1 0", "put 4 2", "put " + "9" * 40 + " 0"):
            self.check_refused(errors.InvalidCell, command)
        for command in ("put 0 2", "put 3 -1", "put 0 " + "9" * 40):
            self.check_refused(errors.InvalidSign, command)
        console = Console()
        self.check_refused(errors.NothingToUndo, "undo", console)

    def test_errors_of_texts(self):
        for command, place in (
            ("rule ", 0), ("rule  2 0 01", 0), ("rule x", 0), ("rule 5 0 01", 0), ("rule 2", 1), ("rule 2 ", 1), ("rule 2 x 01", 1), ("rule 2 0", 2),
            ("rule 2 0 02", 2), ("rule 2 0  01", 2), ("rule 2 0 011", 3), ("rule 2 0 01 ", 3), ("rule 2 0 01 0", 3), ("rule 2 101 01", 3),
            ("rule 3 0 01", 3), ("rule 2 0 01\n", 2), ("ring ", 0), ("ring 2", 0), ("ring 012", 0), ("ring  01", 0), ("ring 01 ", 1), ("ring 0 1", 1),
            ("ring " + "0" * 513, 1), ("weight ", 0), ("weight 1 0", 0), ("weight 2", 1), ("weight 2 ", 1), ("weight 2 0 x", 2), ("weight 2 0", 2),
            ("weight 2 0 1 2", 4), ("weight 2 0 1 ", 3), ("weight 3 0 1", 3), ("weight 3 0 00", 2),
        ):
            self.assertEqual(self.check_refused(errors.InvalidText, command).place, place, command)

    def test_signs_of_the_rule(self):
        self.check_refused(errors.UnlikeSigns, "weight 3 0 1 2")
        self.check_refused(errors.UnlikeSigns, "weight 4 0 1 2 3")
        console = console_with("rule 3 0 012", "ring 012")
        self.check_refused(errors.UnlikeSigns, "weight 2 0 1", console)
        self.assertEqual(self.check_refused(errors.InvalidText, "ring 013", console).place, 0)
        # A text that tells no weight comes first.
        self.check_refused(errors.InvalidText, "weight 2 0 1 0", console)

    def test_what_is_not_kept(self):
        for command in ("flow", "passing", "moves", "possible"):
            self.check_refused(errors.NotKept, command)

    def test_what_is_too_large(self):
        far = console_with("rule 2 50 01", "ring 011")
        for command in ("flow", "passing", "moves", "possible"):
            self.assertEqual(self.check_refused(errors.TooLarge, command, far).limit, 1024)
        self.assertEqual([far.execute(command) for command in ("kept", "top", "bottom")], ["yes", "0/1", "0/1"])
        wide = console_with("rule 2 0 0111", "weight 2 " + " ".join(["0"] * 1024))
        for command in ("kept", "top", "bottom", "flow", "passing"):
            self.assertEqual(self.check_refused(errors.TooLarge, command, wide).limit, 1024)
        self.check_refused(errors.NotKept, "moves", wide)

    def test_consoles_do_not_know_of_each_other(self):
        other = Console()
        other.execute("tick")
        self.assertEqual(told(other)[0], "0")
        self.assertEqual(told(self.console)[0], "1011")


class TestSession(unittest.TestCase):
    """A session from its beginning to its end."""

    def test_session(self):
        console = Console()
        for command, answer in (
            ("show", "0"), ("kept", "yes"), ("undo", errors.NothingToUndo),
            (f"rule {ROAD_TEXT}", "ok"), ("show", "0"), ("ring 11101000", "ok"), ("total", "4"), ("kept", "yes"), ("flow", "0 0 1 0"),
            ("passing", "0 0 0 1 0 1 0 0"), ("moves", "0 0 1 1"), ("possible", "0 1"), ("top", "0/1"), ("bottom", "0/1"),
            ("tick", "11010100"), ("tick", "10101010"), ("tick", "01010101"), ("moves", "1 1 1 1"), ("gained", "0"),
            ("turn 1", "10101010"), ("put 1 1", "11101010"), ("gained", "1"), ("put 8 1", errors.InvalidCell), ("put 1 2", errors.InvalidSign),
            ("tick", "11010101"), ("undo", "11101010"), ("undo", "10101010"), ("undo", "01010101"), ("undo", "10101010"),
            ("weight 2 0 1 0 0", "ok"), ("total", "4"), ("gained", "2"), ("top", "1/4"), ("bottom", "0/1"), ("kept", "no"),
            ("flow", errors.NotKept), ("passing", errors.NotKept), ("moves", "1 1 1 1"), ("weight 3 0 1 2", errors.UnlikeSigns),
            ("rule 2 0 0111", "ok"), ("show", "0"), ("total", "0"), ("moves", errors.NotKept), ("ring 000100", "ok"), ("total", "1"),
            ("tick", "001100"), ("tick", "011100"), ("gained", "0"), ("weight 2 0 1", "ok"), ("gained", "2"), ("top", "1/2"), ("bottom", "0/1"),
            ("rule 3 1 012", "ok"), ("ring 0120", "ok"), ("total", "3"), ("kept", "yes"), ("flow", "0 -1 -2"), ("passing", "0 -1 -2 0"),
            ("moves", "-1 -1 -1"), ("possible", "-1"), ("tick", "1200"), ("tick", "2001"), ("turn -1", "1200"), ("undo", "2001"),
            ("ring", errors.InvalidCommand), ("ring 0 1", errors.InvalidText), ("rule 3 1 01", errors.InvalidText), ("show", "2001"),
            ("undo", "1200"), ("undo", "0120"), ("undo", errors.NothingToUndo), ("show", "0120"),
        ):
            if isinstance(answer, str):
                self.assertEqual(console.execute(command), answer, command)
            else:
                check_raises(self, answer, console.execute, command)

    def test_equal_commands_give_equal_answers(self):
        commands = (f"rule {ROAD_TEXT}", "ring 110010", "tick", "put 0 1", "moves", "turn 7", "undo", "undo", "flow", "show")
        one, other = Console(), Console()
        self.assertEqual([one.execute(command) for command in commands], [other.execute(command) for command in commands])

    def test_listed_names_stand_in_the_class(self):
        self.assertIn("execute", vars(Console))
        self.assertEqual(Console.__module__, "cellflows.console")


if __name__ == "__main__":
    unittest.main()
