"""What names, expressions, tests and single statements look like, and how blocks lie in statements."""

from whichheld.bounds import MAX_BY, MAX_DEEP, MAX_NAME, MAX_NOTS, MAX_TIMES

LETTERS = "abcdefghijklmnopqrstuvwxyz"
DIGITS = "0123456789"
WORDS = ("box", "set", "pay", "stop", "if", "else", "repeat", "pass", "rest", "of", "not", "program")
MAX_CONSTANT = 99
MAX_FACTOR = 9
MIN_BY = 2


def is_integer(value):
    """Whether value is an int that is not a bool."""
    return isinstance(value, int) and not isinstance(value, bool)


def is_between(value, low, high):
    """Whether value is an integer from low to high, both included."""
    return is_integer(value) and low <= value <= high


def is_headed(value, word, size):
    """Whether value is a tuple of so many items, at least one, that begins with this word."""
    return isinstance(value, tuple) and len(value) == size and value[0] == word


def is_name(value):
    """Whether value is a name."""
    if not isinstance(value, str) or not 1 <= len(value) <= MAX_NAME:
        return False
    if value in WORDS or value[0] not in LETTERS:
        return False
    return all([letter in LETTERS + DIGITS for letter in value])


def is_expression(value, deep=MAX_DEEP):
    """Whether value is an expression in which at most deep expressions lie in one another."""
    if deep == 0:
        return False
    if is_integer(value):
        return abs(value) <= MAX_CONSTANT
    if is_headed(value, "plus", 3) or is_headed(value, "minus", 3):
        return is_expression(value[1], deep - 1) and is_expression(value[2], deep - 1)
    if is_headed(value, "times", 3):
        return is_between(value[1], -MAX_FACTOR, MAX_FACTOR) and is_expression(value[2], deep - 1)
    return is_name(value)


def is_test(value, nots=MAX_NOTS):
    """Whether value is a test in which at most so many "not" lie in one another."""
    if is_headed(value, "not", 2):
        return nots > 0 and is_test(value[1], nots - 1)
    if is_headed(value, "less", 3):
        return is_expression(value[1]) and is_expression(value[2])
    if is_headed(value, "rest", 4) and is_between(value[2], MIN_BY, MAX_BY):
        return is_expression(value[1]) and is_between(value[3], 0, value[2] - 1)
    return False


def is_statement(value):
    """Whether value is a statement; its blocks must be tuples, what is in them is not asked."""
    if is_headed(value, "set", 3):
        return is_name(value[1]) and is_expression(value[2])
    if is_headed(value, "pay", 2):
        return is_expression(value[1])
    if is_headed(value, "if", 4):
        return is_test(value[1]) and isinstance(value[2], tuple) and isinstance(value[3], tuple)
    if is_headed(value, "repeat", 3):
        return is_between(value[1], 1, MAX_TIMES) and isinstance(value[2], tuple)
    return is_headed(value, "stop", 1)


def bare_test(test):
    """The test without the "not" ahead of it."""
    while test[0] == "not":
        test = test[1]
    return test


def blocks_of(statement):
    """The tuple of the blocks of the statement, in order."""
    if statement[0] == "if":
        return (statement[2], statement[3])
    if statement[0] == "repeat":
        return (statement[2],)
    return ()


def with_blocks(statement, blocks):
    """The statement with these blocks, as many as it has, in the place of its own."""
    if not blocks:
        return statement
    # The blocks of "if" and of "repeat" alike stand behind the first two items.
    return (statement[0], statement[1], *blocks)
