"""Walks from word to word, which means and sizes share.

The places of a walk are the words of `span` - 1 signs. Each word of `span` signs is a step, from the
place of its first signs to that of its last ones. So a walk that comes back to its first place is a
ring, each cell of which is the first sign of a step, and the sum of its steps is the sum of the ring.
"""


def places_of(weight):
    """How many words of `span` - 1 signs there are."""
    return len(weight[2]) // weight[0]


def longer_sums(weight, sums):
    """For each place the greatest sum of walks to it, with one step more than those of these sums."""
    signs, _, values = weight
    reached = [sums[number // signs] + value for number, value in enumerate(values)]
    # Steps to the same place are so many numbers apart as there are places.
    blocks = [reached[start:start + len(sums)] for start in range(0, len(reached), len(sums))]
    return [max(ways) for ways in zip(*blocks)]


def sums_by_steps(weight, sums, steps):
    """For each number of steps up to this one the greatest sums of walks to each place.

    The sums for 0 steps are passed.
    """
    table = [sums]
    for _ in range(steps):
        table.append(longer_sums(weight, table[-1]))
    return table


def traced_ring(weight, table, place):
    """The ring of a walk to a place that has the sum that `sums_by_steps` gives the place last."""
    signs, _, values = weight
    places = places_of(weight)
    ring = []
    for steps in range(len(table) - 1, 0, -1):
        total = table[steps][place]
        sums = table[steps - 1]
        last_steps = [
            number for number in range(place, len(values), places)
            if sums[number // signs] + values[number] == total
        ]
        ring.append(last_steps[0] // places)
        place = last_steps[0] // signs
    return ring[::-1]


def steps_by_place(signs, steps):
    """For each place from which some of these steps go, the list of those that do."""
    found = {}
    for number in steps:
        found.setdefault(number // signs, []).append(number)
    return found


def steps_back(steps_from, places, start):
    """For each place the last step of a shortest walk to it from `start`, until one comes back there."""
    last_steps = {}
    front = [start]
    while front and start not in last_steps:
        further = []
        for place in front:
            for number in steps_from.get(place, []):
                if number % places not in last_steps:
                    last_steps[number % places] = number
                    further.append(number % places)
        front = further
    return last_steps


def ring_back(signs, places, last_steps, start):
    """The ring of the walk from `start` back there that these last steps tell."""
    ring = []
    place = start
    while not ring or place != start:
        number = last_steps[place]
        ring.append(number // places)
        place = number // signs
    return ring[::-1]


def shortest_ring(signs, places, steps):
    """A ring of these steps alone, with as few cells as any; None if there is none."""
    steps_from = steps_by_place(signs, steps)
    shortest = None
    for start in steps_from:
        last_steps = steps_back(steps_from, places, start)
        if start in last_steps:
            ring = ring_back(signs, places, last_steps, start)
            if shortest is None or len(ring) < len(shortest):
                shortest = ring
    return shortest
