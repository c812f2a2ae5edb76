"""The greatest and the least sums of rings of a told size."""

from cellflows.errors import InvalidCells, TooLarge
from cellflows.means import greatest_mean
from cellflows.rules import CELL_LIMIT
from cellflows.walks import places_of, sums_by_steps, traced_ring
from cellflows.weights import check_weight, negated
from cellflows.words import is_integer

PLACE_LIMIT = 16
FAR_CELL_LIMIT = 10 ** 18


def check_cells(value, most):
    """Raise InvalidCells unless the value is a number of cells up to the greatest one."""
    if not is_integer(value) or value < 1 or value > most:
        raise InvalidCells(f"a number of cells is an integer from 1 to {most}")


def check_places(weight):
    """Raise TooLarge if there are too many words of `span` - 1 signs."""
    if places_of(weight) > PLACE_LIMIT:
        raise TooLarge(PLACE_LIMIT)


def check_size(weight, cells, most):
    """Raise the error of a weight or a number of cells that is none, or of a weight that is too large."""
    check_weight(weight)
    check_cells(cells, most)
    check_places(weight)


def missing_value(weight, cells):
    """A value for steps that there are not: with it, no walk of so many steps matches one that is."""
    return -2 * cells * max([abs(value) for value in weight[2]]) - 1


def step_sums(weight, missing):
    """For each two places the greatest value of a step from one to the other; `missing` without one."""
    signs, _, values = weight
    places = places_of(weight)
    table = [[missing] * places for _ in range(places)]
    for number, value in enumerate(values):
        row = table[number // signs]
        row[number % places] = max(row[number % places], value)
    return table


def joined_sums(table, later):
    """For each two places the greatest sum of walks that are made of one of each table."""
    columns = list(zip(*later))
    return [
        [max([one + other for one, other in zip(row, column)]) for column in columns]
        for row in table
    ]


def far_sums(steps_once, steps):
    """For each two places the greatest sum of walks of so many steps."""
    if steps == 1:
        return steps_once
    half = far_sums(steps_once, steps // 2)
    table = joined_sums(half, half)
    if steps % 2 == 1:
        table = joined_sums(table, steps_once)
    return table


def ring_top(weight, cells):
    """The greatest sum of any ring of so many cells, all unchecked."""
    table = far_sums(step_sums(weight, missing_value(weight, cells)), cells)
    return max([row[place] for place, row in enumerate(table)])


def greatest_sum(weight, cells):
    """The greatest sum of any ring of so many cells."""
    check_size(weight, cells, FAR_CELL_LIMIT)
    return ring_top(weight, cells)


def least_sum(weight, cells):
    """The least sum of any ring of so many cells."""
    check_size(weight, cells, FAR_CELL_LIMIT)
    return -ring_top(negated(weight), cells)


def greatest_ring(weight, cells):
    """A ring of so many cells with the greatest sum of these."""
    check_size(weight, cells, CELL_LIMIT)
    missing = missing_value(weight, cells)
    best_sum = None
    best_ring = None
    for start in range(places_of(weight)):
        sums = [missing] * places_of(weight)
        sums[start] = 0
        table = sums_by_steps(weight, sums, cells)
        if best_sum is None or table[cells][start] > best_sum:
            best_sum = table[cells][start]
            best_ring = traced_ring(weight, table, start)
    return best_ring


def reaches_top(weight, cells):
    """Whether some ring of so many cells has the greatest mean of any ring."""
    check_size(weight, cells, FAR_CELL_LIMIT)
    top, bottom = greatest_mean(weight)
    return bottom * ring_top(weight, cells) == top * cells
