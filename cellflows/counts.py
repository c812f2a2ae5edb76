"""How many rings of a told size have a told sum, and which of them comes at a told index.

A ring is a walk that comes back, as in cellflows.walks. Here all walks from each place to one goal
are counted by their sums. All values are raised first so that the least one is 0.
"""

from cellflows.errors import InvalidIndex, TooLarge
from cellflows.rules import check_ring
from cellflows.sizes import check_cells, check_places, check_size
from cellflows.walks import places_of
from cellflows.weights import check_total, check_weight, ring_sum
from cellflows.words import check_index, numbers_round, word_at

COUNT_CELL_LIMIT = 60

# Lists of the numbers for all sums are quick, but too long if the values lie far apart.
LIST_SPREAD = 300


def raised(weight):
    """The least value of a weight, and the weight by which each word has what it has more."""
    signs, span, values = weight
    least = min(values)
    return least, (signs, span, [value - least for value in values])


def first_counts(weight, goal):
    """For each place the numbers of the walks of no step from there to the goal, by their sums.

    They are lists, in which the sum is the index, or dicts, in which it is the key.
    """
    places = range(places_of(weight))
    if max(weight[2]) > LIST_SPREAD:
        return [{0: 1} if place == goal else {} for place in places]
    return [[1] if place == goal else [0] for place in places]


def joined_lists(ways, spread):
    """The numbers of all these ways by their sums: pairs of the value of a step and the list behind it."""
    rows = [[0] * value + counts + [0] * (spread - value) for value, counts in ways]
    joined = rows[0]
    for row in rows[1:]:
        joined = [one + other for one, other in zip(joined, row)]
    return joined


def joined_dicts(ways):
    """The numbers of all these ways by their sums: pairs of the value of a step and the dict behind it."""
    joined = {}
    for value, counts in ways:
        for total, many in counts.items():
            joined[total + value] = joined.get(total + value, 0) + many
    return joined


def longer_counts(weight, counts):
    """The numbers for walks with one step more than those that these count."""
    signs, _, values = weight
    ways = [(value, counts[number % len(counts)]) for number, value in enumerate(values)]
    from_places = [ways[start:start + signs] for start in range(0, len(ways), signs)]
    if type(counts[0]) is dict:
        return [joined_dicts(some) for some in from_places]
    return [joined_lists(some, max(values)) for some in from_places]


def counts_to(weight, goal, steps):
    """For each place the numbers of the walks of so many steps from there to the goal, by their sums."""
    counts = first_counts(weight, goal)
    for _ in range(steps):
        counts = longer_counts(weight, counts)
    return counts


def counts_ahead(weight, goal, cells):
    """The counts of walks to the goal for so many steps less 1, for one step fewer and so on down to 0."""
    table = [first_counts(weight, goal)]
    for _ in range(cells - 1):
        table.append(longer_counts(weight, table[-1]))
    return table[::-1]


def ways_of(counts):
    """All pairs of a sum and the number of the walks that have it."""
    if type(counts) is dict:
        return list(counts.items())
    return [(total, many) for total, many in enumerate(counts) if many > 0]


def ways_to(counts, total):
    """The number of the walks that have a sum."""
    if type(counts) is dict:
        return counts.get(total, 0)
    return counts[total] if 0 <= total < len(counts) else 0


def counts_by_start(weight, cells, total):
    """For each place the number of the rings of so many cells that begin there and have a sum."""
    places = range(places_of(weight))
    # A walk there and back is told by the place that it has come to halfway.
    half = cells // 2
    there = [counts_to(weight, goal, half) for goal in places]
    back = there
    if cells % 2 == 1:
        back = [longer_counts(weight, counts) for counts in there]
    return [
        sum([
            many * ways_to(back[start][middle], total - part)
            for middle in places for part, many in ways_of(there[middle][start])
        ])
        for start in places
    ]


def steps_ahead(weight, place, counts, total):
    """The steps from a place, ascending, with the numbers of the walks on to the goal that have a sum."""
    signs, _, values = weight
    return [
        (number, ways_to(counts[number % len(counts)], total - values[number]))
        for number in range(place * signs, place * signs + signs)
    ]


def counts_by_sum(weight, cells):
    """The ascending list of the tuples of a sum that some ring has, and the number of the rings with it."""
    check_size(weight, cells, COUNT_CELL_LIMIT)
    least, lifted = raised(weight)
    found = {}
    for place in range(places_of(weight)):
        for total, many in ways_of(counts_to(lifted, place, cells)[place]):
            found[total] = found.get(total, 0) + many
    return [(total + least * cells, found[total]) for total in sorted(found)]


def count_rings(weight, cells, total):
    """The number of the rings of so many cells with a sum."""
    check_weight(weight)
    check_cells(cells, COUNT_CELL_LIMIT)
    check_total(total)
    check_places(weight)
    least, lifted = raised(weight)
    return sum(counts_by_start(lifted, cells, total - least * cells))


def ring_from(weight, cells, start, total, index):
    """The ring with an index among those of so many cells that begin at a place and have a sum."""
    signs, span, values = weight
    ring = word_at(signs, span - 1, start)
    place = start
    for counts in counts_ahead(weight, start, cells):
        steps = steps_ahead(weight, place, counts, total)
        while index >= steps[0][1]:
            index = index - steps[0][1]
            steps = steps[1:]
        step = steps[0][0]
        ring.append(step % signs)
        total = total - values[step]
        place = step % len(counts)
    # The walk goes on until its first cells have come again.
    return ring[:cells]


def nth_ring(weight, cells, total, index):
    """The ring with an index among those of so many cells with a sum, ascending."""
    check_weight(weight)
    check_cells(cells, COUNT_CELL_LIMIT)
    check_total(total)
    check_index(index)
    check_places(weight)
    least, lifted = raised(weight)
    rest = total - least * cells
    for start, many in enumerate(counts_by_start(lifted, cells, rest)):
        if index < many:
            return ring_from(lifted, cells, start, rest, index)
        index = index - many
    raise InvalidIndex("there are not so many rings")


def ring_index(weight, ring):
    """The index of a ring among those with as many cells and its sum."""
    check_weight(weight)
    check_ring(weight[0], ring)
    check_places(weight)
    cells = len(ring)
    if cells > COUNT_CELL_LIMIT:
        raise TooLarge(COUNT_CELL_LIMIT)
    lifted = raised(weight)[1]
    signs, span, values = lifted
    total = ring_sum(lifted, ring)
    path = numbers_round(signs, span, ring, 0)
    start = path[0] // signs
    index = sum(counts_by_start(lifted, cells, total)[:start])
    for own, counts in zip(path, counts_ahead(lifted, start, cells)):
        steps = steps_ahead(lifted, own // signs, counts, total)
        index = index + sum([many for step, many in steps if step < own])
        total = total - values[own]
    return index
