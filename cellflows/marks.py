"""Marks on the cells: where they go if a rule keeps their number, and which moves they can make."""

from cellflows.errors import InvalidMark
from cellflows.gains import gain, gain_cells, kept_flow
from cellflows.means import lowest_terms
from cellflows.rules import FAR_TICK_LIMIT, check_ring, check_rule, check_ticks, most_ticks, next_ring
from cellflows.rules import ring_on_path, ring_path
from cellflows.weights import divisor
from cellflows.words import is_integer, number_of, part_numbers, word_at


def mark_weight(signs):
    """The weight by which each ring has the number of its marks as its sum."""
    return (signs, 1, list(range(signs)))


def check_mark(ring, value):
    """Raise InvalidMark unless the value is the number of a mark of the ring."""
    if not is_integer(value) or value < 0 or value >= sum(ring):
        raise InvalidMark("not the number of a mark of the ring")


def mark_flow(rule):
    """The kept flow of the marks."""
    return kept_flow(rule, mark_weight(rule[0]))


def cells_with_marks(ring):
    """The cells of all marks, by their numbers, unchecked."""
    return [cell for cell, sign in enumerate(ring) for _ in range(sign)]


def mark_cells(signs, ring):
    """The cells of all marks, by their numbers."""
    check_ring(signs, ring)
    return cells_with_marks(ring)


def keeps_marks(rule):
    """Whether the rule keeps marks."""
    check_rule(rule)
    return divisor(gain(rule, mark_weight(rule[0]))) == 0


def passing_first(rule, flow, ring):
    """How many marks pass the border on the left of the cell 0."""
    low, length = gain_cells(rule, mark_weight(rule[0]))
    around = [ring[cell % len(ring)] for cell in range(low, low + length - 1)]
    return flow[number_of(rule[0], around)]


def far_cells(ring, numbers):
    """The cells of the marks with these numbers, if marks and cells are counted on each time round the ring."""
    cells = cells_with_marks(ring)
    return [cells[number % len(cells)] + number // len(cells) * len(ring) for number in numbers]


def mark_moves(rule, ring):
    """The moves of all marks of a ring in a tick."""
    check_rule(rule)
    check_ring(rule[0], ring)
    passed = passing_first(rule, mark_flow(rule), ring)
    cells = cells_with_marks(ring)
    later = far_cells(next_ring(rule, ring), [mark + passed for mark in range(len(cells))])
    return [there - here for here, there in zip(cells, later)]


def passed_behind(passed, since, ticks):
    """How many marks have passed behind so many ticks, by how many pass in each tick of a path.

    `since` is what `ring_path` tells: behind the last of these ticks comes the one with this index.
    """
    if since is None:
        return sum(passed[:ticks])
    rounds, rest = divmod(ticks - since, len(passed) - since)
    return sum(passed[:since]) + rounds * sum(passed[since:]) + sum(passed[since:since + rest])


def mark_after(rule, ring, mark, ticks):
    """The cell in which a mark is behind so many ticks, and its whole move."""
    check_rule(rule)
    check_ring(rule[0], ring)
    check_mark(ring, mark)
    check_ticks(ticks, most_ticks(rule[0], ring))
    flow = mark_flow(rule)
    path, since = ring_path(rule, ring, ticks)
    passed = [passing_first(rule, flow, one) for one in path]
    number = mark + passed_behind(passed, since, ticks)
    cell = far_cells(ring_on_path(path, since, ticks), [number])[0]
    return (cell % len(ring), cell - cells_with_marks(ring)[mark])


def speed(rule, ring):
    """The mean move of a mark of the ring in a tick in the long run."""
    check_rule(rule)
    check_ring(rule[0], ring)
    flow = mark_flow(rule)
    path, since = ring_path(rule, ring, FAR_TICK_LIMIT)
    passed = [passing_first(rule, flow, one) for one in path[since:]]
    marks = sum(ring)
    if marks == 0:
        return (0, 1)
    # Each time as many marks have passed as there are, each of them has gone once round the ring.
    return lowest_terms(len(ring) * sum(passed), marks * len(passed))


def moves_with_marks(rule):
    """For each move that a mark of some ring can make in a tick: a ring and a mark of it that makes it.

    Here the marks that a cell has behind the tick are followed back. As many marks pass a border
    if there are zeros beyond the word around it, so they all come from this word. So the marks
    that come into a cell come from the word of all cells that play a part there, and if this
    word alone is the ring, they make the same moves.
    """
    signs, first, width, table = rule
    low, length = gain_cells(rule, mark_weight(signs))
    flow = mark_flow(rule)
    found = {}
    for number, part in enumerate(part_numbers(signs, length, first - low, width)):
        word = word_at(signs, length, number)
        cells = cells_with_marks(word)
        # The first mark that is in the cell behind the tick.
        mark = sum(word[:-low]) - flow[number // signs]
        for later in range(mark, mark + table[part]):
            found[-low - cells[later]] = (word, later)
    return found


def possible_moves(rule):
    """The ascending list of all moves that a mark of some ring can make in a tick."""
    check_rule(rule)
    return sorted(moves_with_marks(rule))


def moving_ring(rule, move):
    """A ring and a mark of it that makes such a move; None for any value that is no such move."""
    check_rule(rule)
    found = moves_with_marks(rule)
    if not is_integer(move):
        return None
    return found.get(move)
