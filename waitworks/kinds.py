"""What kind of value something is: asked of any values at all."""

from math import gcd

LETTERS = "abcdefghijklmnopqrstuvwxyz"
DIGITS = "0123456789"


def is_integer(value):
    """Whether this is an integer: True and False are none."""
    return isinstance(value, int) and not isinstance(value, bool)


def is_number(value):
    """Whether this is an integer from 0 on."""
    return is_integer(value) and value >= 0


def is_sequence(value):
    """Whether this is a list or a tuple."""
    return isinstance(value, (list, tuple))


def is_tuple_of(value, many):
    """Whether this is a tuple of so many things."""
    return isinstance(value, tuple) and len(value) == many


def is_name(value):
    """Whether this is a string of 1 to 5 lower-case letters."""
    if not isinstance(value, str) or not 1 <= len(value) <= 5:
        return False
    return all([letter in LETTERS for letter in value])


def is_one_of(value, words):
    """Whether this is one of these strings."""
    return isinstance(value, str) and value in words


def is_link(value):
    """Whether this is a tuple of two strings and two numbers."""
    if not is_tuple_of(value, 4):
        return False
    first, then, marks, lasts = value
    return isinstance(first, str) and isinstance(then, str) and is_number(marks) and is_number(lasts)


def are_pairs(value, names):
    """Whether this is a tuple of a pair of a name and an integer for each of these names, in order."""
    if not is_tuple_of(value, len(names)):
        return False
    return all([is_tuple_of(pair, 2) and pair[0] == name and is_integer(pair[1]) for pair, name in zip(value, names)])


def is_number_word(word, most):
    """Whether this string is decimal digits without leading zeros, so many at most."""
    if not 1 <= len(word) <= most or (word[0] == "0" and len(word) > 1):
        return False
    return all([letter in DIGITS for letter in word])


def in_lowest_terms(top, bottom):
    """The value of a fraction."""
    shared = gcd(top, bottom)
    return (top // shared, bottom // shared)


def is_less(one, other):
    """Whether the one value is less than the other one."""
    return one[0] * other[1] < other[0] * one[1]


def free_names(taken, many):
    """The first so many of a, .., z, aa, ab, .. that are not taken."""
    names = []
    at = 0
    while len(names) < many:
        name = _name_at(at)
        if name not in taken:
            names.append(name)
        at += 1
    return names


def _name_at(at):
    """The name with this number among a, .., z, aa, ab, .."""
    name = ""
    rest = at + 1
    while rest > 0:
        rest, letter = divmod(rest - 1, len(LETTERS))
        name = LETTERS[letter] + name
    return name
