"""The greatest and the least mean of any ring, rings that have it, and flows that show it."""

from math import gcd

from cellflows.errors import InvalidMean
from cellflows.walks import places_of, shortest_ring, sums_by_steps
from cellflows.weights import check_weight, negated
from cellflows.words import is_integer, is_integer_list


def is_mean(value):
    """Whether any value is a mean; it may have a common divisor."""
    if type(value) is not tuple or len(value) != 2:
        return False
    return is_integer(value[0]) and is_integer(value[1]) and value[1] >= 1


def check_mean(value):
    """Raise InvalidMean unless the value is a mean."""
    if not is_mean(value):
        raise InvalidMean("a mean is a tuple of an integer and an integer from 1 on")


def is_flow(weight, value):
    """Whether any value is a flow of the weight."""
    return is_integer_list(value) and len(value) == places_of(weight)


def lowest_terms(top, bottom):
    """The mean without a common divisor."""
    common = gcd(top, bottom)
    return (top // common, bottom // common)


def is_less(mean, other):
    """Whether the first mean is less than the other one."""
    return mean[0] * other[1] < other[0] * mean[1]


def least_of(means):
    """The least one of a list of means."""
    least = means[0]
    for mean in means:
        if is_less(mean, least):
            least = mean
    return least


def walk_sums(weight):
    """The greatest sums of walks to each place, from any place, for up to as many steps as places."""
    places = places_of(weight)
    return sums_by_steps(weight, [0] * places, places)


def mean_by_sums(table):
    """The greatest mean of any ring, by the greatest sums of walks.

    This is Karp's theorem: the mean is what the longest walk to the best place has more than a
    shorter one there, for each step that it has more, with the shorter one for which this is least.
    """
    steps = len(table) - 1
    greatest = None
    for sums in zip(*table):
        mean = least_of([(sums[steps] - sums[many], steps - many) for many in range(steps)])
        if greatest is None or is_less(greatest, mean):
            greatest = mean
    return lowest_terms(greatest[0], greatest[1])


def flow_by_sums(table, mean):
    """A flow that bounds the weight from above by its greatest mean, by the greatest sums of walks."""
    top, bottom = mean
    # No ring gains more than the mean at each step, so a walk that comes to a place again is not
    # better than one that left this out: those with fewer steps than places are enough.
    shorter = table[:-1]
    return [
        min([many * top - bottom * total for many, total in enumerate(sums)])
        for sums in zip(*shorter)
    ]


def flow_sums(weight, bottom, flow):
    """For each word of `span` signs what is to be compared with the top of a mean with this bottom."""
    signs, _, values = weight
    return [
        bottom * value - flow[number // signs] + flow[number % len(flow)]
        for number, value in enumerate(values)
    ]


def greatest_mean(weight):
    """The greatest mean of any ring."""
    check_weight(weight)
    return mean_by_sums(walk_sums(weight))


def least_mean(weight):
    """The least mean of any ring."""
    check_weight(weight)
    top, bottom = greatest_mean(negated(weight))
    return (-top, bottom)


def top_flow(weight):
    """A flow that bounds the weight from above by its greatest mean."""
    check_weight(weight)
    table = walk_sums(weight)
    return flow_by_sums(table, mean_by_sums(table))


def bottom_flow(weight):
    """A flow that bounds the weight from below by its least mean."""
    check_weight(weight)
    return [-item for item in top_flow(negated(weight))]


def top_ring(weight):
    """A ring that has the greatest mean, with as few cells as any."""
    check_weight(weight)
    table = walk_sums(weight)
    top, bottom = mean_by_sums(table)
    sums = flow_sums(weight, bottom, flow_by_sums(table, (top, bottom)))
    # A ring has the greatest mean just if no word in it falls short of what bounds it.
    steps = [number for number, total in enumerate(sums) if total == top]
    return shortest_ring(weight[0], places_of(weight), steps)


def bottom_ring(weight):
    """A ring that has the least mean, with as few cells as any."""
    check_weight(weight)
    return top_ring(negated(weight))


def bounds_above(weight, mean, value):
    """Whether any value is a flow of the weight that bounds it from above by the mean."""
    check_weight(weight)
    check_mean(mean)
    return is_flow(weight, value) and max(flow_sums(weight, mean[1], value)) <= mean[0]


def bounds_below(weight, mean, value):
    """Whether any value is a flow of the weight that bounds it from below by the mean."""
    check_weight(weight)
    check_mean(mean)
    return is_flow(weight, value) and min(flow_sums(weight, mean[1], value)) >= mean[0]
