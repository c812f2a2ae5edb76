"""Runs: rings of any size, told by how many equal cells stand one behind the other."""

from cellflows.errors import InvalidRuns, TooLarge
from cellflows.rules import CELL_LIMIT, check_ring, check_rule, check_ticks
from cellflows.weights import check_weight
from cellflows.words import check_signs, is_integer, numbers_round

RUN_TICK_LIMIT = 10


def is_run(signs, value):
    """Whether any value is a tuple of one of so many signs and a number of cells."""
    if type(value) is not tuple or len(value) != 2:
        return False
    sign, many = value
    return is_integer(sign) and 0 <= sign < signs and is_integer(many) and many >= 1


def is_runs(signs, value):
    """Whether any value is runs with so many signs."""
    check_signs(signs)
    return type(value) is list and len(value) >= 1 and all([is_run(signs, item) for item in value])


def check_runs(signs, value):
    """Raise InvalidRuns unless the value is runs with so many signs, which are checked first."""
    if not is_runs(signs, value):
        raise InvalidRuns("not runs with as many signs")


def merged(runs):
    """The normal runs of the same ring, unchecked."""
    found = []
    for sign, many in runs:
        if found and found[-1][0] == sign:
            found[-1] = (sign, found[-1][1] + many)
        else:
            found.append((sign, many))
    return found


def cells_in(runs):
    """The number of the cells, unchecked."""
    return sum([many for _, many in runs])


def shortened(runs, length):
    """A ring with each run cut down to at most `length` cells, and for how many each of its cells stands.

    The word of this length that begins at a cell is the same for all cells for which it stands:
    where a run was cut down, that of its first cell is made of this run alone.
    """
    cells = []
    counts = []
    for sign, many in runs:
        kept = min(many, length)
        cells.extend([sign] * kept)
        counts.append(many - kept + 1)
        counts.extend([1] * (kept - 1))
    return cells, counts


def turned(runs, place):
    """The normal runs of the ring whose cell 0 is the one with this number."""
    ahead = []
    behind = []
    for sign, many in runs:
        before = min(many, place)
        place = place - before
        if before > 0:
            ahead.append((sign, before))
        if many > before:
            behind.append((sign, many - before))
    return merged(behind + ahead)


def runs_of(signs, ring):
    """The normal runs of a ring."""
    check_ring(signs, ring)
    return merged([(sign, 1) for sign in ring])


def cells_of(signs, runs):
    """The number of the cells."""
    check_runs(signs, runs)
    return cells_in(runs)


def normal_runs(signs, runs):
    """The normal runs of the same ring."""
    check_runs(signs, runs)
    return merged(runs)


def unrolled(signs, runs):
    """The ring."""
    check_runs(signs, runs)
    if cells_in(runs) > CELL_LIMIT:
        raise TooLarge(CELL_LIMIT)
    return shortened(runs, CELL_LIMIT)[0]


def runs_sum(weight, runs):
    """The sum of the ring."""
    check_weight(weight)
    signs, span, values = weight
    check_runs(signs, runs)
    cells, counts = shortened(runs, span)
    numbers = numbers_round(signs, span, cells, 0)
    return sum([values[number] * many for number, many in zip(numbers, counts)])


def ticked_runs(rule, runs, ticks):
    """The normal runs of the ring behind so many ticks."""
    check_rule(rule)
    signs, first, width, table = rule
    check_runs(signs, runs)
    check_ticks(ticks, RUN_TICK_LIMIT)
    later = merged(runs)
    for _ in range(ticks):
        # Where the rule looks only turns the ring, so this can wait until all ticks are made.
        cells, counts = shortened(later, width)
        numbers = numbers_round(signs, width, cells, 0)
        later = merged([(table[number], many) for number, many in zip(numbers, counts)])
    return turned(later, ticks * first % cells_in(runs))
