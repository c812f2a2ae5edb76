"""Words of signs and their numbers, and the checks that the other modules share."""

from cellflows.errors import InvalidIndex, InvalidSigns, UnlikeSigns

WORD_LIMIT = 1024


def is_integer(value):
    """Whether any value is an integer; True and False are none."""
    return isinstance(value, int) and not isinstance(value, bool)


def is_sign_count(value):
    """Whether any value is a number of signs."""
    return is_integer(value) and 2 <= value <= 4


def is_integer_list(value):
    """Whether any value is a list of integers."""
    return type(value) is list and all([is_integer(item) for item in value])


def is_word(signs, value):
    """Whether any value is a list of so many signs."""
    return is_integer_list(value) and all([0 <= item < signs for item in value])


def check_signs(value):
    """Raise InvalidSigns unless the value is a number of signs."""
    if not is_sign_count(value):
        raise InvalidSigns("a number of signs is an integer from 2 to 4")


def check_index(value):
    """Raise InvalidIndex unless the value is an integer from 0 on."""
    if not is_integer(value) or value < 0:
        raise InvalidIndex("an index is an integer from 0 on")


def check_like_signs(one, other):
    """Raise UnlikeSigns if two rules or weights have unlike numbers of signs."""
    if one[0] != other[0]:
        raise UnlikeSigns("the numbers of signs are unlike")


def count_words(signs, length, limit):
    """How many words have this length, or None if they are more than the limit."""
    # The count stops at the limit, since callers may pass a length of 40 digits.
    many = 1
    for _ in range(length):
        many = many * signs
        if many > limit:
            return None
    return many


def word_at(signs, length, number):
    """The word of this length with this number."""
    word = []
    for _ in range(length):
        word.append(number % signs)
        number = number // signs
    return word[::-1]


def number_of(signs, word):
    """The number of a word."""
    number = 0
    for sign in word:
        number = number * signs + sign
    return number


def part_numbers(signs, length, start, size):
    """For each word of this length the number of its part of `size` signs from `start` on."""
    behind = count_words(signs, length - start - size, WORD_LIMIT)
    many = count_words(signs, size, WORD_LIMIT)
    return [number // behind % many for number in range(count_words(signs, length, WORD_LIMIT))]


def numbers_round(signs, length, ring, start):
    """For each cell of a ring the number of the word that begins `start` cells behind it."""
    cells = len(ring)
    many = count_words(signs, length, WORD_LIMIT)
    end = start + length - 1
    number = number_of(signs, [ring[place % cells] for place in range(start, end)])
    numbers = []
    for cell in range(cells):
        number = (number * signs + ring[(end + cell) % cells]) % many
        numbers.append(number)
    return numbers


def first_matters(signs, items):
    """Whether some two words that differ in the first sign alone have unlike items."""
    block = len(items) // signs
    return items[block:] != items[:-block]


def last_matters(signs, items):
    """Whether some two words that differ in the last sign alone have unlike items."""
    return any([item != items[at - at % signs] for at, item in enumerate(items)])
