"""Rules and the rings that they make."""

from cellflows.errors import InvalidRing, InvalidRule, InvalidTicks, TooLarge
from cellflows.words import WORD_LIMIT, check_like_signs, check_signs, count_words, first_matters
from cellflows.words import is_integer, is_sign_count, is_word, last_matters, number_of
from cellflows.words import numbers_round, word_at

REACH = 100
CELL_LIMIT = 512
TICK_LIMIT = 100
FAR_TICK_LIMIT = 10 ** 30
FAR_RING_LIMIT = 65536


def is_rule(value):
    """Whether any value is a rule."""
    if type(value) is not tuple or len(value) != 4:
        return False
    signs, first, width, table = value
    if not is_sign_count(signs) or not is_integer(first) or not is_integer(width):
        return False
    if width < 1 or not is_reached(first, width) or not is_word(signs, table):
        return False
    return len(table) == count_words(signs, width, WORD_LIMIT)


def is_reached(first, width):
    """Whether a rule may look at so many cells from this one on."""
    return first >= -REACH and first + width <= REACH + 1


def is_ring(signs, value):
    """Whether any value is a ring with so many signs."""
    check_signs(signs)
    return is_word(signs, value) and 1 <= len(value) <= CELL_LIMIT


def check_rule(value):
    """Raise InvalidRule unless the value is a rule."""
    if not is_rule(value):
        raise InvalidRule("not a rule")


def check_ring(signs, value):
    """Raise InvalidRing unless the value is a ring with so many signs, which are checked first."""
    if not is_ring(signs, value):
        raise InvalidRing("not a ring with as many signs")


def check_ticks(value, most):
    """Raise InvalidTicks unless the value is a number of ticks up to the greatest one."""
    if not is_integer(value) or value < 0 or value > most:
        raise InvalidTicks(f"a number of ticks is an integer from 0 to {most}")


def most_ticks(signs, ring):
    """How many ticks a ring can be followed."""
    if count_words(signs, len(ring), FAR_RING_LIMIT) is None:
        return TICK_LIMIT
    return FAR_TICK_LIMIT


def next_ring(rule, ring):
    """The ring behind one tick."""
    signs, first, width, table = rule
    return [table[number] for number in numbers_round(signs, width, ring, first)]


def ring_path(rule, ring, ticks):
    """The rings behind 0 ticks, 1 and so on, up to so many ticks or until one comes again.

    Beside them stand the ticks behind which that one was there first, or None if none comes again.
    """
    path = [list(ring)]
    seen = {tuple(ring): 0}
    while len(path) <= ticks:
        later = next_ring(rule, path[-1])
        since = seen.get(tuple(later))
        if since is not None:
            return path, since
        seen[tuple(later)] = len(path)
        path.append(later)
    return path, None


def ring_on_path(path, since, ticks):
    """The ring behind so many ticks, by what `ring_path` tells."""
    if since is None:
        return path[ticks]
    return path[since + (ticks - since) % (len(path) - since)]


def ticked(rule, ring, ticks):
    """The ring behind so many ticks."""
    check_rule(rule)
    check_ring(rule[0], ring)
    check_ticks(ticks, most_ticks(rule[0], ring))
    # Rings that can be followed far are few, so they come round again soon.
    path, since = ring_path(rule, ring, ticks)
    return ring_on_path(path, since, ticks)


def reduced(rule):
    """The one rule with the least width that makes the same of each ring."""
    check_rule(rule)
    signs, first, width, table = rule
    while width > 1 and not last_matters(signs, table):
        table = table[::signs]
        width = width - 1
    while width > 1 and not first_matters(signs, table):
        table = table[:len(table) // signs]
        first = first + 1
        width = width - 1
    if not last_matters(signs, table):
        first = 0
    return (signs, first, width, list(table))


def words_by_part(rule, low, high):
    """For each word of the cells from `low` up to `high`: for each sign made, a word that makes it.

    The keys are the words of these cells, which the rule looks at, as tuples. The words are
    those of all cells that the rule looks at.
    """
    signs, first, width, table = rule
    found = {}
    for number, made in enumerate(table):
        word = word_at(signs, width, number)
        part = tuple(word[low - first:high - first])
        by_made = found.setdefault(part, {})
        by_made[made] = word
    return found


def unlike_words(words, others):
    """A word of each of both dicts, with unlike signs as their keys; None if there are none."""
    for made, word in words.items():
        for other, later_word in others.items():
            if made != other:
                return word, later_word
    return None


def parting_ring(rule, later):
    """A ring of which both rules make unlike ones; None if there is none."""
    check_rule(rule)
    check_rule(later)
    check_like_signs(rule, later)
    end, later_end = rule[1] + rule[2], later[1] + later[2]
    # Only the cells that both rules look at tie their words together.
    low = max(rule[1], later[1])
    high = max(low, min(end, later_end))
    words, later_words = words_by_part(rule, low, high), words_by_part(later, low, high)
    # In a ring of so many cells each cell that is looked at is another one.
    ring = [0] * (max(end, later_end) - min(rule[1], later[1]))
    for part in words:
        unlike = unlike_words(words[part], later_words[part])
        if unlike is not None:
            lay_word(ring, rule[1], unlike[0])
            lay_word(ring, later[1], unlike[1])
            return ring
    return None


def lay_word(ring, start, word):
    """Give the cells of a ring from `start` on the signs of a word."""
    for place, sign in enumerate(word, start=start):
        ring[place % len(ring)] = sign


def made_numbers(rule, length):
    """For each word of `width` + `length` - 1 signs the number of the word that a tick makes of it."""
    signs, _, _, table = rule
    numbers = list(table)
    for _ in range(length - 1):
        many = len(numbers) * signs
        numbers = [numbers[at // signs] * signs + table[at % len(table)] for at in range(many)]
    return numbers


def composed(rule, later):
    """The rule that does in one tick what the first one and then the later one do."""
    check_rule(rule)
    check_rule(later)
    check_like_signs(rule, later)
    first = rule[1] + later[1]
    width = rule[2] + later[2] - 1
    if count_words(rule[0], width, WORD_LIMIT) is None:
        raise TooLarge(WORD_LIMIT)
    if not is_reached(first, width):
        raise TooLarge(REACH)
    table = [later[3][number] for number in made_numbers(rule, later[2])]
    return (rule[0], first, width, table)


def mirrored(rule):
    """The rule that does the same with left and right exchanged."""
    check_rule(rule)
    signs, first, width, table = rule
    words = [word_at(signs, width, number) for number in range(len(table))]
    turned = [table[number_of(signs, word[::-1])] for word in words]
    return (signs, 1 - first - width, width, turned)
