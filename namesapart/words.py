"""Words, names, amounts, and the words of plain names."""

LETTERS = "abcdefghijklmnopqrstuvwxyz"
NO_WORDS = ("given", "apply", "hold", "test", "maker", "row", "make", "any", "name", "word", "fill")
MOST_LETTERS = 6
GREATEST_AMOUNT = 10 ** 12

# How many marks a name has at most, and the greatest one: of a tree, and of a lotted tree.
NAME_BOUNDS = (40, 40)
LOT_BOUNDS = (400, 10 ** 6)


def is_integer(value):
    """Whether a value is an integer; True and False are none."""
    return isinstance(value, int) and not isinstance(value, bool)


def is_between(value, least, most):
    """Whether a value is an integer from the least to the most."""
    return is_integer(value) and least <= value <= most


def is_amount(value):
    """Whether a value is an amount."""
    return is_between(value, -GREATEST_AMOUNT, GREATEST_AMOUNT)


def is_word(value):
    """Whether a value is a word."""
    if not isinstance(value, str) or not 1 <= len(value) <= MOST_LETTERS:
        return False
    return value.isascii() and value.isalpha() and value.islower() and value not in NO_WORDS


def is_ascending(numbers):
    """Whether each one is greater than the one ahead of it."""
    return all([one < other for one, other in zip(numbers, numbers[1:])])


def are_marks(value, bounds):
    """Whether a value is an ascending tuple of marks within the bounds."""
    many, greatest = bounds
    if not isinstance(value, tuple) or len(value) > many:
        return False
    if not all([is_integer(mark) for mark in value]):
        return False
    if not value:
        return True
    return 1 <= value[0] and value[-1] <= greatest and is_ascending(value)


def is_marked(value, bounds):
    """Whether a value is a pair of a word and of marks within the bounds."""
    if not isinstance(value, tuple) or len(value) != 2:
        return False
    return is_word(value[0]) and are_marks(value[1], bounds)


def spelled(number):
    """The row of letters with this index among a, b and so on to z, aa, ab and so on."""
    text = LETTERS[number % 26]
    left = number // 26
    while left > 0:
        text = LETTERS[(left - 1) % 26] + text
        left = (left - 1) // 26
    return text


def first_words(many, taken):
    """The first so many of a, b and so on that are words and are not taken."""
    found = []
    number = 0
    while len(found) < many:
        told = spelled(number)
        if is_word(told) and told not in taken:
            found.append(told)
        number = number + 1
    return found
