"""Whole numbers and rows, as every part of the program asks for them."""


def is_count(thing):
    """Whether it is a whole number from 0 on. A truth is none, though Python counts it as an int."""
    return type(thing) is int and thing >= 0


def is_whole(thing, low, high):
    """Whether it is a whole number from low to high."""
    return type(thing) is int and low <= thing <= high


def is_row(thing, least, most):
    """Whether it is a row of at least so many and at most so many things."""
    return type(thing) is tuple and least <= len(thing) <= most


def are_rising(things):
    """Whether each of these numbers, or rows of such, is greater than the one ahead of it."""
    return all([one < other for one, other in zip(things, things[1:])])


def are_unlike(things):
    """Whether none of these numbers or texts stands there twice."""
    return len(set(things)) == len(things)


def fits(thing, spans):
    """Whether it is a row with a whole number for each span (low, high), from its low to its high."""
    if not is_row(thing, len(spans), len(spans)):
        return False
    return all([is_whole(one, low, high) for one, (low, high) in zip(thing, spans)])
