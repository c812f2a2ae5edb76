"""Marks on the cells: where they go if a rule keeps their number, and which moves they can make."""

from cellflows.errors import InvalidMark
from cellflows.gains import gain, gain_cells, kept_flow
from cellflows.means import lowest_terms
from cellflows.rules import FAR_TICK_LIMIT, check_ring, check_rule, check_ticks, most_ticks, next_ring
from cellflows.rules import ring_on_path, ring_path
from cellflows.weights import divisor
from cellflows.words import check_signs, is_integer, number_of, part_numbers, word_at

RIGHT = 1
LEFT = -1


def mark_weight(signs):
    """The weight by which each ring has the number of its marks as its sum."""
    return (signs, 1, list(range(signs)))


def check_mark(ring, value):
    """Raise InvalidMark unless the value is the number of a mark of the ring."""
    if not is_integer(value) or value < 0 or value >= sum(ring):
        raise InvalidMark("not the number of a mark of the ring")


def mark_flow(rule):
    """The kept flow of the marks."""
    return kept_flow(rule, mark_weight(rule[0]))


def cells_with_marks(ring):
    """The cells of all marks, by their numbers, unchecked."""
    return [cell for cell, sign in enumerate(ring) for _ in range(sign)]


def mark_cells(signs, ring):
    """The cells of all marks, by their numbers."""
    check_signs(signs)
    check_ring(signs, ring)
    return cells_with_marks(ring)


def keeps_marks(rule):
    """Whether the rule keeps marks."""
    check_rule(rule)
    return divisor(gain(rule, mark_weight(rule[0]))) == 0


def passing_first(rule, flow, ring):
    """How many marks pass the border on the left of the cell 0."""
    low, length = gain_cells(rule, mark_weight(rule[0]))
    around = [ring[cell % len(ring)] for cell in range(low, low + length - 1)]
    return flow[number_of(rule[0], around)]


def far_cell(ring, number):
    """The cell of the mark with a number, if marks and cells are counted on each time round the ring."""
    cells = cells_with_marks(ring)
    return cells[number % len(cells)] + number // len(cells) * len(ring)


def mark_moves(rule, ring):
    """The moves of all marks of a ring in a tick."""
    check_rule(rule)
    check_ring(rule[0], ring)
    passed = passing_first(rule, mark_flow(rule), ring)
    later = next_ring(rule, ring)
    return [far_cell(later, mark + passed) - cell for mark, cell in enumerate(cells_with_marks(ring))]


def passed_behind(passed, since, ticks):
    """How many marks have passed behind so many ticks, by how many pass in each tick of a path.

    `since` is what `ring_path` tells: behind the last of these ticks comes the one with this index.
    """
    if since is None:
        return sum(passed[:ticks])
    rounds, rest = divmod(ticks - since, len(passed) - since)
    return sum(passed[:since]) + rounds * sum(passed[since:]) + sum(passed[since:since + rest])


def mark_after(rule, ring, mark, ticks):
    """The cell in which a mark is behind so many ticks, and its whole move."""
    check_rule(rule)
    check_ring(rule[0], ring)
    check_mark(ring, mark)
    check_ticks(ticks, most_ticks(rule[0], ring))
    flow = mark_flow(rule)
    path, since = ring_path(rule, ring, ticks)
    passed = [passing_first(rule, flow, one) for one in path]
    cell = far_cell(ring_on_path(path, since, ticks), mark + passed_behind(passed, since, ticks))
    return (cell % len(ring), cell - far_cell(ring, mark))


def speed(rule, ring):
    """The mean move of a mark of the ring in a tick in the long run."""
    check_rule(rule)
    check_ring(rule[0], ring)
    flow = mark_flow(rule)
    path, since = ring_path(rule, ring, FAR_TICK_LIMIT)
    passed = [passing_first(rule, flow, one) for one in path[since:]]
    marks = sum(ring)
    if marks == 0:
        return (0, 1)
    # Each time as many marks have passed as there are, each of them has gone once round the ring.
    return lowest_terms(len(ring) * sum(passed), marks * len(passed))


def marks_behind(rule):
    """For each word of the cells around a cell the marks in that cell behind the tick."""
    low, length = gain_cells(rule, mark_weight(rule[0]))
    return [rule[3][number] for number in part_numbers(rule[0], length, rule[1] - low, rule[2])]


def words_beside(signs, places, word, side):
    """The words that can stand around the next cell on a side of the cell around which this one stands."""
    if side == RIGHT:
        return [word % places * signs + sign for sign in range(signs)]
    return [sign * places + word // signs for sign in range(signs)]


def starts(rule, flow):
    """For each mark in a cell the word around the cell, and the t that [12] of the document tells."""
    signs = rule[0]
    low, length = gain_cells(rule, mark_weight(signs))
    own = part_numbers(signs, length, -low, 1)
    return [(word, flow[word // signs] + mark) for word, marks in enumerate(own) for mark in range(marks)]


def first_pairs(rule, flow, side):
    """The pairs, as in `walks`, of the first cell in which marks that go to a side may stop."""
    if side == RIGHT:
        return {(word, t): (word, t) for word, t in starts(rule, flow) if t >= 0}
    return {
        (beside, -t - 1): (word, t)
        for word, t in starts(rule, flow) if t < 0
        for beside in words_beside(rule[0], len(flow), word, side)
    }


def walks(rule, flow, side):
    """For each cell on a side in which marks may stop, one by one: the pairs there, and those ahead.

    A pair is the word around the cell, and how many marks behind the tick a mark that comes
    there passes before it stops. It stops if there are more than these in the cell. A pair
    leads to the one that the mark had in the cell ahead, the first pair to what `starts` tells.
    """
    behind = marks_behind(rule)
    layers = [first_pairs(rule, flow, side)]
    # No pair comes twice on one walk, so there is an end.
    while layers[-1]:
        further = {}
        for pair in layers[-1]:
            word, rest = pair
            if behind[word] <= rest:
                for beside in words_beside(rule[0], len(flow), word, side):
                    further[(beside, rest - behind[word])] = pair
        layers.append(further)
    return layers


def stops(rule, layer):
    """The pairs of a cell with which a mark stops there."""
    behind = marks_behind(rule)
    return [(word, rest) for word, rest in layer if behind[word] > rest]


def possible_moves(rule):
    """The ascending list of all moves that a mark of some ring can make in a tick."""
    check_rule(rule)
    flow = mark_flow(rule)
    left = [-1 - cells for cells, layer in enumerate(walks(rule, flow, LEFT)) if stops(rule, layer)]
    right = [cells for cells, layer in enumerate(walks(rule, flow, RIGHT)) if stops(rule, layer)]
    return left[::-1] + right


def moving_ring(rule, move):
    """A ring and a mark of it that makes such a move; None for any value that is no such move."""
    check_rule(rule)
    flow = mark_flow(rule)
    if not is_integer(move):
        return None
    side = RIGHT if move >= 0 else LEFT
    layers = walks(rule, flow, side)
    cells = move if side == RIGHT else -1 - move
    if cells >= len(layers) or not stops(rule, layers[cells]):
        return None
    pair = stops(rule, layers[cells])[0]
    words = []
    for layer in layers[cells::-1]:
        words.append(pair[0])
        pair = layer[pair]
    return ring_of_walk(rule, flow, side, words[::-1], pair)


def ring_of_walk(rule, flow, side, words, start):
    """The ring that these words around the cells of a walk tell, and the mark that begins it."""
    signs = rule[0]
    low, length = gain_cells(rule, mark_weight(signs))
    cell = -low
    ring = word_at(signs, length, start[0])
    if side == RIGHT:
        ring = ring + [word % signs for word in words[1:]]
    else:
        ring = [word // len(flow) for word in words[::-1]] + ring
        cell = cell + len(words)
    mark = start[1] - flow[start[0] // signs]
    return (ring, sum(ring[:cell]) + mark)
