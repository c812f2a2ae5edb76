"""Texts of rules, weights and rings."""

from cellflows.errors import InvalidText
from cellflows.rules import check_ring, check_rule, is_ring, is_rule
from cellflows.weights import check_weight, is_weight
from cellflows.words import check_signs

DIGITS = "0123456789"
DIGIT_LIMIT = 40


def is_number(word):
    """Whether a word is a decimal number as in texts."""
    digits = word[1:] if word.startswith("-") else word
    if len(digits) < 1 or len(digits) > DIGIT_LIMIT or not all([digit in DIGITS for digit in digits]):
        return False
    return word == "0" or not digits.startswith("0")


def is_sign_count_word(word):
    """Whether a word is a number of signs."""
    return word in ("2", "3", "4")


def are_signs(signs, word):
    """Whether a word is made of one or more of so many signs."""
    return len(word) >= 1 and all([digit in DIGITS[:signs] for digit in word])


def signs_in(word):
    """The list of the signs of which a word is made."""
    return [int(digit) for digit in word]


def signs_text(items):
    """The text of a list of signs."""
    return "".join([str(item) for item in items])


def words_of(text):
    """What stands between single spaces in any value; InvalidText(None) if it is no string."""
    if not isinstance(text, str):
        raise InvalidText(None)
    return text.split(" ")


def check_words(words, can_stand):
    """Raise InvalidText with the place of the first word that cannot stand there."""
    for place in range(len(words)):
        if not can_stand(words, place):
            raise InvalidText(place)


def stands_in_rule(words, place):
    """Whether the word at a place of the text of a rule can stand there, if those ahead of it can."""
    if place == 0:
        return is_sign_count_word(words[0])
    if place == 1:
        return is_number(words[1])
    return place == 2 and are_signs(int(words[0]), words[2])


def stands_in_weight(words, place):
    """Whether the word at a place of the text of a weight can stand there."""
    if place == 0:
        return is_sign_count_word(words[0])
    return is_number(words[place])


def span_of(signs, many):
    """The least span with at least so many words."""
    span = 1
    words = signs
    while words < many:
        words = words * signs
        span = span + 1
    return span


def show_rule(rule):
    """The text of a rule."""
    check_rule(rule)
    signs, first, _, table = rule
    return f"{signs} {first} {signs_text(table)}"


def show_weight(weight):
    """The text of a weight."""
    check_weight(weight)
    signs, _, values = weight
    return " ".join([str(number) for number in [signs] + values])


def show_ring(signs, ring):
    """The text of a ring."""
    check_ring(signs, ring)
    return signs_text(ring)


def read_rule(text):
    """The rule that has this text."""
    words = words_of(text)
    check_words(words, stands_in_rule)
    if len(words) == 3:
        signs, table = int(words[0]), signs_in(words[2])
        rule = (signs, int(words[1]), span_of(signs, len(table)), table)
        if is_rule(rule):
            return rule
    raise InvalidText(len(words))


def read_weight(text):
    """The weight that has this text."""
    words = words_of(text)
    check_words(words, stands_in_weight)
    signs, values = int(words[0]), [int(word) for word in words[1:]]
    weight = (signs, span_of(signs, len(values)), values)
    if not is_weight(weight):
        raise InvalidText(len(words))
    return weight


def read_ring(signs, text):
    """The ring that has this text."""
    check_signs(signs)
    words = words_of(text)
    if not are_signs(signs, words[0]):
        raise InvalidText(0)
    ring = signs_in(words[0])
    # No second word can stand there, and if there is none, 1 is the number of the words.
    if len(words) > 1 or not is_ring(signs, ring):
        raise InvalidText(1)
    return ring
