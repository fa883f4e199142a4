"""Worths, names and terms."""

from pacebond.kinds import is_row, is_whole

WORTHS = 256

TERMS_WITHIN = 4

_LETTERS = 6


def plus(x, y):
    """The sum, modulo WORTHS."""
    return (x + y) % WORTHS


def minus(x, y):
    """The difference, modulo WORTHS."""
    return (x - y) % WORTHS


def times(x, y):
    """The product, modulo WORTHS."""
    return (x * y) % WORTHS


def less(x, y):
    """1 where x is less than y, else 0."""
    return 1 if x < y else 0


def same(x, y):
    """1 where x is y, else 0."""
    return 1 if x == y else 0


OPS = {"+": plus, "-": minus, "*": times, "<": less, "=": same}


def is_op(thing):
    """Whether it is the sign of an op."""
    return type(thing) is str and thing in OPS


def is_worth(thing):
    """Whether it is a worth."""
    return is_whole(thing, 0, WORTHS - 1)


def is_name(thing):
    """Whether it is a name."""
    if type(thing) is not str or not 1 <= len(thing) <= _LETTERS or thing == "at":
        return False
    return all(["a" <= letter <= "z" for letter in thing])


def is_term(thing):
    """Whether it is a term; behind "at" any name will do."""
    return is_term_within(thing, TERMS_WITHIN)


def is_term_within(thing, left):
    """Whether it is a term of at most so many ops and ats within one another."""
    if is_worth(thing) or is_name(thing):
        return True
    if left == 0 or not is_row(thing, 3, 3):
        return False
    word, first, second = thing
    if word == "at":
        return is_name(first) and is_term_within(second, left - 1)
    return is_op(word) and is_term_within(first, left - 1) and is_term_within(second, left - 1)
