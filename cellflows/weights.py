"""Weights and the sums of rings by them."""

from math import gcd

from cellflows.errors import InvalidTotal, InvalidWeight
from cellflows.rules import check_ring
from cellflows.words import WORD_LIMIT, check_like_signs, count_words, is_integer, is_integer_list
from cellflows.words import is_sign_count, last_matters, numbers_round, word_at


def is_weight(value):
    """Whether any value is a weight."""
    if type(value) is not tuple or len(value) != 3:
        return False
    signs, span, values = value
    if not is_sign_count(signs) or not is_integer(span) or span < 1 or not is_integer_list(values):
        return False
    return len(values) == count_words(signs, span, WORD_LIMIT)


def check_weight(value):
    """Raise InvalidWeight unless the value is a weight."""
    if not is_weight(value):
        raise InvalidWeight("not a weight")


def check_total(value):
    """Raise InvalidTotal unless the value is an integer."""
    if not is_integer(value):
        raise InvalidTotal("not an integer")


def ring_sum(weight, ring):
    """The sum of a ring, both unchecked."""
    signs, span, values = weight
    return sum([values[number] for number in numbers_round(signs, span, ring, 0)])


def sum_of(weight, ring):
    """The sum of a ring."""
    check_weight(weight)
    check_ring(weight[0], ring)
    return ring_sum(weight, ring)


def negated(weight):
    """The weight by which each ring has the negative of its sum, unchecked."""
    signs, span, values = weight
    return (signs, span, [-value for value in values])


def sums_behind_zeros(weight):
    """For each word of `span` - 1 signs the sum of the values of all words with its beginning.

    These are the words of `span` signs: one zero or more, and one sign or more of its beginning.
    """
    signs, span, values = weight
    sums = []
    for number in range(len(values) // signs):
        total = 0
        rest = number
        for _ in range(span - 1):
            total = total + values[rest]
            rest = rest // signs
        sums.append(total)
    return sums


def plain(weight):
    """The plain weight that is alike."""
    check_weight(weight)
    signs, span, values = weight
    # What is added at a cell is taken away at the next one, so no ring's sum changes.
    # A word that begins with 0 is left with the value of the word of zeros.
    sums = sums_behind_zeros(weight)
    shifted = [
        value + sums[number // signs] - sums[number % len(sums)]
        for number, value in enumerate(values)
    ]
    while span > 1 and not last_matters(signs, shifted):
        shifted = shifted[::signs]
        span = span - 1
    return (signs, span, shifted)


def divisor(weight):
    """The greatest integer that divides the sums of all rings; 0 if all of them are 0."""
    found = 0
    for value in plain(weight)[2]:
        found = gcd(found, value)
    return found


def values_at_span(weight, span):
    """The values of a weight for longer words, each one that of the beginning of the word."""
    signs, own_span, values = weight
    for _ in range(span - own_span):
        values = [values[number // signs] for number in range(len(values) * signs)]
    return values


def added(weight, second, times):
    """The weight by which each ring has its sum by the first one and, `times` times, by the second."""
    check_weight(weight)
    check_weight(second)
    check_total(times)
    check_like_signs(weight, second)
    span = max(weight[1], second[1])
    values = values_at_span(weight, span)
    others = values_at_span(second, span)
    return (weight[0], span, [value + times * other for value, other in zip(values, others)])


def apart_ring(weight, second):
    """A ring with unlike sums by both weights; None if they are alike."""
    gap = plain(added(weight, second, -1))
    signs, span, values = gap
    numbers = [number for number, value in enumerate(values) if value != 0]
    if not numbers:
        return None
    # If words that begin with 0 have the value 0, this ring and the one with a 0 at its first
    # cell differ in their sums by the value of the word; otherwise the word is that of zeros.
    ring = word_at(signs, span, numbers[0]) + [0] * (span - 1)
    if ring_sum(gap, ring) == 0:
        ring[0] = 0
    return ring
