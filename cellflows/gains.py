"""What rings gain by a rule and a weight, and what passes the borders of cells if they gain nothing."""

from cellflows.errors import NotKept, TooLarge
from cellflows.means import greatest_mean, least_mean
from cellflows.rules import check_ring, check_rule, check_ticks, made_numbers
from cellflows.weights import added, check_weight, divisor, plain, sums_behind_zeros
from cellflows.words import WORD_LIMIT, check_like_signs, count_words, numbers_round, part_numbers

GAIN_TICK_LIMIT = 8


def check_rule_and_weight(rule, weight):
    """Raise the error of a rule and a weight that are none, or have unlike numbers of signs."""
    check_rule(rule)
    check_weight(weight)
    check_like_signs(rule, weight)


def check_span(signs, span):
    """Raise TooLarge if there are too many words of this length for a weight."""
    if count_words(signs, span, WORD_LIMIT) is None:
        raise TooLarge(WORD_LIMIT)


def pulled(rule, weight):
    """The weight by which each ring has the sum that it has behind a tick."""
    check_rule_and_weight(rule, weight)
    signs, span, values = weight
    check_span(signs, rule[2] + span - 1)
    return (signs, rule[2] + span - 1, [values[number] for number in made_numbers(rule, span)])


def gain_cells(rule, weight):
    """The first cell that plays a part in the gain at a cell, counted from there, and how many do."""
    _, first, width, _ = rule
    span = weight[1]
    low = min(0, first)
    high = max(span - 1, first + width + span - 2)
    return low, high - low + 1


def gain(rule, weight):
    """The weight of the gain in a tick."""
    check_rule_and_weight(rule, weight)
    signs, span, values = weight
    low, length = gain_cells(rule, weight)
    check_span(signs, length)
    _, later_span, later_values = pulled(rule, weight)
    ahead = part_numbers(signs, length, -low, span)
    behind = part_numbers(signs, length, rule[1] - low, later_span)
    gained = [later_values[later] - values[now] for later, now in zip(behind, ahead)]
    return (signs, length, gained)


def ring_gain(rule, weight, ticks):
    """A weight by which each ring has what it gains in so many ticks.

    The sum of a ring stays as it is if all values are counted from another cell. So it does not
    matter where the rule looks, and this weight often has fewer words than that of `gain`.
    """
    check_rule(rule)
    check_weight(weight)
    check_ticks(ticks, GAIN_TICK_LIMIT)
    check_like_signs(rule, weight)
    later = weight
    for _ in range(ticks):
        later = pulled(rule, later)
    return plain(added(later, weight, -1))


def greatest_gain(rule, weight, ticks):
    """The greatest mean of what rings gain, a cell, in all of so many ticks together."""
    return greatest_mean(ring_gain(rule, weight, ticks))


def least_gain(rule, weight, ticks):
    """The least mean of what rings gain, a cell, in all of so many ticks together."""
    return least_mean(ring_gain(rule, weight, ticks))


def is_kept(rule, weight):
    """Whether the weight is kept by the rule."""
    return remainder(rule, weight) == 0


def never_grows(rule, weight):
    """Whether no ring gains."""
    return greatest_gain(rule, weight, 1)[0] <= 0


def remainder(rule, weight):
    """The divisor of the gain."""
    return divisor(ring_gain(rule, weight, 1))


def kept_flow(rule, weight):
    """The kept flow: how much passes at a border, by the word of the cells around it."""
    gained = gain(rule, weight)
    if divisor(gained) != 0:
        raise NotKept("the weight is not kept by the rule")
    # From the word of zeros, which has 0, each sign more takes away the gain of the word it ends.
    return [-total for total in sums_behind_zeros(gained)]


def passing(rule, weight, ring):
    """The list of what passes the border on the left of each cell of a ring."""
    check_rule(rule)
    check_weight(weight)
    check_ring(rule[0], ring)
    flow = kept_flow(rule, weight)
    low, length = gain_cells(rule, weight)
    return [flow[number] for number in numbers_round(rule[0], length - 1, ring, low)]
