"""A console that performs commands told as strings, and answers them with strings."""

from cellflows.bands import Band
from cellflows.errors import InvalidCommand
from cellflows.gains import greatest_gain, is_kept, kept_flow, least_gain, passing
from cellflows.marks import mark_moves, mark_weight, possible_moves
from cellflows.texts import is_number, read_ring, read_rule, read_weight, show_ring
from cellflows.words import check_like_signs


def mean_text(mean):
    """The text of a mean."""
    return f"{mean[0]}/{mean[1]}"


def list_text(items):
    """The text of a list of numbers."""
    if len(items) == 0:
        return "none"
    return " ".join([str(item) for item in items])


def show_text(band, _):
    """The text of the ring."""
    return show_ring(band.rule[0], band.ring)


def total_text(band, weight):
    """The sum of the ring now."""
    return str(band.total(weight))


def gained_text(band, weight):
    """The sum of the ring now, less that at the beginning."""
    return str(band.gained(weight))


def top_text(band, weight):
    """The greatest gain in a tick."""
    return mean_text(greatest_gain(band.rule, weight, 1))


def bottom_text(band, weight):
    """The least gain in a tick."""
    return mean_text(least_gain(band.rule, weight, 1))


def kept_text(band, weight):
    """Whether the weight is kept."""
    return "yes" if is_kept(band.rule, weight) else "no"


def flow_text(band, weight):
    """The kept flow."""
    return list_text(kept_flow(band.rule, weight))


def passing_text(band, weight):
    """What passes the border on the left of each cell."""
    return list_text(passing(band.rule, weight, band.ring))


def moves_text(band, _):
    """The moves of all marks of the ring."""
    return list_text(mark_moves(band.rule, band.ring))


def possible_text(band, _):
    """All moves that a mark of some ring can make."""
    return list_text(possible_moves(band.rule))


ANSWERS = {
    "show": show_text, "total": total_text, "gained": gained_text, "top": top_text, "bottom": bottom_text,
    "kept": kept_text, "flow": flow_text, "passing": passing_text, "moves": moves_text, "possible": possible_text,
}

# How many numbers stand behind each of these words.
CALLS = {"tick": 0, "put": 2, "turn": 1, "undo": 0}

SETTINGS = ("rule", "ring", "weight")


class Console:
    """A band and a weight, and commands about them."""

    def __init__(self):
        self._band = Band((2, 0, 1, [0, 1]), [0])
        self._weight = (2, 1, [0, 1])

    def execute(self, command):
        """Perform a command and return the answer."""
        if not isinstance(command, str):
            raise InvalidCommand("a command is a string")
        if command in ANSWERS:
            answer = ANSWERS[command]
            return answer(self._band, self._weight)
        word, space, text = command.partition(" ")
        if word in SETTINGS and space == " ":
            self._set(word, text)
            return "ok"
        numbers = command.split(" ")[1:]
        if CALLS.get(word) != len(numbers) or not all([is_number(number) for number in numbers]):
            raise InvalidCommand("no command has this form")
        self._call(word, [int(number) for number in numbers])
        return show_text(self._band, self._weight)

    def _set(self, word, text):
        """Take a new rule, ring or weight."""
        if word == "rule":
            rule = read_rule(text)
            self._band = Band(rule, [0])
            if rule[0] != self._weight[0]:
                self._weight = mark_weight(rule[0])
        elif word == "ring":
            rule = self._band.rule
            self._band = Band(rule, read_ring(rule[0], text))
        else:
            weight = read_weight(text)
            check_like_signs(self._band.rule, weight)
            self._weight = weight

    def _call(self, word, numbers):
        """Make a call of the band."""
        if word == "tick":
            self._band.tick()
        elif word == "put":
            self._band.put(numbers[0], numbers[1])
        elif word == "turn":
            self._band.turn(numbers[0])
        else:
            self._band.undo()
