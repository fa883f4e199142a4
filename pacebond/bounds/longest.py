"""The longest and the shortest walk of a code, each with what shows it."""

from pacebond.bounds.heights import begin_number, greatest, least, numbered_spots, ticks_ahead
from pacebond.kinds import is_count, is_row
from pacebond.machine.moods import BEGIN
from pacebond.machine.steps import ticks_in
from pacebond.machine.walks import MOST, ground_of, steps_of, ticks_on


def bound_of(code, machine, *, most=MOST):
    """How many ticks the longest walk takes."""
    return ticks_ahead(steps_of(code, machine, most), greatest)[BEGIN]


def swiftest_of(code, machine, *, most=MOST):
    """How many ticks the shortest walk takes."""
    return ticks_ahead(steps_of(code, machine, most), least)[BEGIN]


def longest(code, machine, *, most=MOST):
    """(ticks, walk, heights): the paper of the bound."""
    return paper_of(steps_of(code, machine, most), greatest)


def shortest(code, machine, *, most=MOST):
    """(ticks, walk, depths): the paper of the swiftest."""
    return paper_of(steps_of(code, machine, most), least)


def shows_longest(code, machine, thing):
    """Whether it is a paper of the bound."""
    return is_paper(ground_of(code, machine), thing, greatest)


def shows_shortest(code, machine, thing):
    """Whether it is a paper of the swiftest."""
    return is_paper(ground_of(code, machine), thing, least)


def is_paper(ground, thing, pick):
    """Whether it is (ticks, walk, numbers at spots), heights where pick is greatest, depths where it is least."""
    if not (is_row(thing, 3, 3) and is_count(thing[0]) and ticks_on(ground, thing[1]) == thing[0]):
        return False
    number = begin_number(ground, thing[2], pick)
    return number is not None and pick([thing[0], number]) == thing[0]


def paper_of(steps, pick):
    """(ticks, walk, numbers at spots) of the steps of all spots that walks come to; pick is greatest or least."""
    ticks = ticks_ahead(steps, pick)
    return (ticks[BEGIN], walk_by(BEGIN, steps, ticks), numbered_spots(ticks))


def walk_by(begin, steps, ticks):
    """A walk that takes the ticks that are told to go on from the spot where it begins."""
    spot = begin
    walk = []
    while spot is not None:
        found = steps[spot]
        choice = [ticks_in(one) + ticks[one[4]] for one in found].index(ticks[spot])
        walk.append(choice)
        spot = found[choice][4]
    return tuple(walk)
