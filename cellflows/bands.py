"""Bands: rings that go on, with calls that can be taken back."""

from cellflows.errors import InvalidCell, InvalidCells, InvalidSign, NothingToUndo
from cellflows.rules import TICK_LIMIT, check_ring, check_rule, check_ticks, next_ring, ticked
from cellflows.weights import check_weight, ring_sum
from cellflows.words import check_like_signs, is_integer


class Band:
    """A ring that goes on by a rule."""

    def __init__(self, rule, ring):
        check_rule(rule)
        check_ring(rule[0], ring)
        signs, first, width, table = rule
        self._rule = (signs, first, width, list(table))
        self._ring = list(ring)
        self._beginning = list(ring)
        # Each call that can be taken back, with the ring ahead of it. No list in here is ever changed.
        self._past = []

    @property
    def rule(self):
        """The rule."""
        signs, first, width, table = self._rule
        return (signs, first, width, list(table))

    @property
    def ring(self):
        """The ring now."""
        return list(self._ring)

    @property
    def ticks(self):
        """The number of the ticks that are not taken back."""
        return len([call for call, _ in self._past if call[0] == "tick"])

    @property
    def log(self):
        """The list of the calls that are not taken back."""
        return [call for call, _ in self._past]

    def __len__(self):
        return len(self._past)

    def __eq__(self, other):
        if not isinstance(other, Band):
            return False
        return self._rule == other._rule and self._ring == other._ring

    def _go_on(self, call, ring):
        """Make this the ring now, and keep what is needed to take the call back."""
        self._past.append((call, self._ring))
        self._ring = ring

    def tick(self):
        """Make a tick."""
        self._go_on(("tick",), next_ring(self._rule, self._ring))

    def put(self, cell, sign):
        """Give a cell a sign."""
        if not is_integer(cell) or cell < 0 or cell >= len(self._ring):
            raise InvalidCell("not the number of a cell")
        if not is_integer(sign) or sign < 0 or sign >= self._rule[0]:
            raise InvalidSign("not a sign")
        self._go_on(("put", cell, sign), self._ring[:cell] + [sign] + self._ring[cell + 1:])

    def turn(self, places):
        """Turn the ring so that the cell with this number, taken round the ring, becomes the cell 0."""
        if not is_integer(places):
            raise InvalidCells("a number of places is an integer")
        first = places % len(self._ring)
        self._go_on(("turn", places), self._ring[first:] + self._ring[:first])

    def undo(self):
        """Take back the latest call that is not taken back."""
        if len(self._past) == 0:
            raise NothingToUndo("no call is left that can be taken back")
        self._ring = self._past.pop()[1]

    def total(self, weight):
        """The sum of the ring now."""
        self._check_weight(weight)
        return ring_sum(weight, self._ring)

    def gained(self, weight):
        """The sum of the ring now, less that at the beginning."""
        self._check_weight(weight)
        return ring_sum(weight, self._ring) - ring_sum(weight, self._beginning)

    def _check_weight(self, weight):
        """Raise the error of a weight that is none, or has not the number of signs of the rule."""
        check_weight(weight)
        check_like_signs(self._rule, weight)

    def after(self, ticks):
        """The ring behind so many ticks from now; the band stays as it is."""
        check_ticks(ticks, TICK_LIMIT)
        return ticked(self._rule, self._ring, ticks)

    def twin(self):
        """An independent band that is as this one is, with the same calls to take back."""
        other = Band(self._rule, self._beginning)
        other._ring = list(self._ring)
        other._past = list(self._past)
        return other
