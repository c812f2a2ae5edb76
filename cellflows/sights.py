"""Sights: what rings can have been, if their sums by some weights were observed."""

from cellflows.errors import InvalidIndex, InvalidPairs, InvalidTotal, NotFitting
from cellflows.gains import pulled
from cellflows.rules import check_rule
from cellflows.sizes import check_cells
from cellflows.weights import check_weight, is_weight
from cellflows.words import check_index, check_like_signs, count_words, is_integer, is_integer_list
from cellflows.words import word_at

SIGHT_LIMIT = 4
SIGHT_CELL_LIMIT = 12
MOST_RINGS = 4 ** 12


def is_pair(value):
    """Whether any value is a tuple of a weight and an integer."""
    return type(value) is tuple and len(value) == 2 and is_weight(value[0]) and is_integer(value[1])


def is_pairs(value):
    """Whether any value is a list of some pairs, all of whose weights have one number of signs."""
    if type(value) is not list or len(value) < 1 or len(value) > SIGHT_LIMIT:
        return False
    if not all([is_pair(item) for item in value]):
        return False
    return all([weight[0] == value[0][0][0] for weight, _ in value])


def check_pairs(value):
    """Raise InvalidPairs unless the value is a list of pairs."""
    if not is_pairs(value):
        raise InvalidPairs("not a list of 1 to 4 pairs of a weight and an integer")


def check_totals(value):
    """Raise InvalidTotal unless the value is a list of totals."""
    if not is_integer_list(value) or len(value) < 1 or len(value) > SIGHT_LIMIT:
        raise InvalidTotal("not a list of 1 to 4 integers")


def first_words(signs, span, cells):
    """For each ring of so many cells, by its number, that of the word that begins at its first cell."""
    many = count_words(signs, cells, MOST_RINGS)
    numbers = list(range(many))
    length = cells
    while length < span:
        numbers = [number * many + ring for ring, number in enumerate(numbers)]
        length = length + cells
    behind = count_words(signs, length - span, MOST_RINGS)
    return [number // behind for number in numbers]


def sums_of_rings(weight, cells):
    """The sums of all rings of so many cells, by the numbers of the rings."""
    signs, span, values = weight
    heads = [values[number] for number in first_words(signs, span, cells)]
    block = len(heads) // signs
    # Each ring is turned by one cell, so that each of its words comes to stand first once.
    turned = [ring % block * signs + ring // block for ring in range(len(heads))]
    sums = heads
    for _ in range(cells - 1):
        sums = [head + sums[later] for head, later in zip(heads, turned)]
    return sums


def fitting_rings(pairs, tables):
    """The numbers of the rings that fit these pairs, by the sums of all rings for each pair."""
    fitting = list(range(len(tables[0])))
    for pair, sums in zip(pairs, tables):
        fitting = [ring for ring in fitting if sums[ring] == pair[1]]
    return fitting


def fits(pairs, cells):
    """The numbers of all rings of so many cells that fit, ascending."""
    return fitting_rings(pairs, [sums_of_rings(weight, cells) for weight, _ in pairs])


def observed(rule, weight, totals):
    """The pairs for totals that were observed at the ticks 0, 1 and so on."""
    check_rule(rule)
    check_weight(weight)
    check_totals(totals)
    check_like_signs(rule, weight)
    signs, span, values = weight
    pairs = [((signs, span, list(values)), totals[0])]
    for total in totals[1:]:
        pairs.append((pulled(rule, pairs[-1][0]), total))
    return pairs


def count_fits(pairs, cells):
    """How many rings of so many cells fit."""
    check_pairs(pairs)
    check_cells(cells, SIGHT_CELL_LIMIT)
    return len(fits(pairs, cells))


def nth_fit(pairs, cells, index):
    """The ring with an index among those of so many cells that fit, ascending."""
    check_pairs(pairs)
    check_cells(cells, SIGHT_CELL_LIMIT)
    check_index(index)
    fitting = fits(pairs, cells)
    if index >= len(fitting):
        raise InvalidIndex("there are not so many rings that fit")
    return word_at(pairs[0][0][0], cells, fitting[index])


def sure_bounds(pairs, weight, cells):
    """The least and the greatest sum by a weight of the rings of so many cells that fit."""
    check_pairs(pairs)
    check_weight(weight)
    check_cells(cells, SIGHT_CELL_LIMIT)
    check_like_signs(pairs[0][0], weight)
    sums = sums_of_rings(weight, cells)
    told = [sums[ring] for ring in fits(pairs, cells)]
    if not told:
        raise NotFitting("no ring fits")
    return (min(told), max(told))


def excluding(pairs, cells):
    """Indices of pairs that no ring fits together, none of which can be left out; None if one fits all."""
    check_pairs(pairs)
    check_cells(cells, SIGHT_CELL_LIMIT)
    tables = [sums_of_rings(weight, cells) for weight, _ in pairs]
    if fitting_rings(pairs, tables):
        return None
    needed = list(range(len(pairs)))
    for index in range(len(pairs)):
        others = [one for one in needed if one != index]
        if others and not fitting_rings([pairs[one] for one in others], [tables[one] for one in others]):
            needed = others
    return needed
