"""Moods and spots, by their form."""

from pacebond.codes.codes import counts_around, loops_in, need_code
from pacebond.errors import NoSpot
from pacebond.kinds import are_unlike, is_row, is_whole
from pacebond.machine.near import first_line, lines_for, need_machine

EMPTY = ((), (), ())
BEGIN = (0, (), ((), (), ()))

_COMING = 2


def is_mood(code, machine, thing):
    """Whether it is a mood, whether it is come to or not."""
    need_code(code)
    need_machine(machine)
    return is_mood_form(code, machine, thing)


def is_spot(code, machine, thing):
    """Whether it is a spot, whether it is come to or not."""
    need_code(code)
    need_machine(machine)
    return is_spot_form(code, machine, thing)


def need_spot(code, machine, spot):
    """Refuses what is no spot of a code on a machine."""
    if not is_spot_form(code, machine, spot):
        raise NoSpot("this is no spot")


def is_mood_form(code, machine, thing):
    """As is_mood, of a code and a machine."""
    if not is_row(thing, 3, 3):
        return False
    _, most_rows, most_cells = machine
    many, sizes, rows = code[1], code[3], code[4]
    near_rows, near_cells, coming = thing
    if not are_near(near_rows, most_rows, lines_for(len(rows))):
        return False
    return are_near(near_cells, most_cells, first_line(sizes, len(sizes))) and are_coming(coming, many)


def are_near(thing, most, lines):
    """Whether it is a row of at most so many unlike lines, of so many that there are."""
    return is_row(thing, 0, most) and all([is_whole(line, 0, lines - 1) for line in thing]) and are_unlike(thing)


def are_coming(thing, many):
    """Whether it is a rising row of (register, ticks), of so many registers, none twice."""
    if not is_row(thing, 0, many) or not all([is_row(one, 2, 2) for one in thing]):
        return False
    lowest = 0
    for one, ticks in thing:
        if not (is_whole(one, lowest, many - 1) and is_whole(ticks, 1, _COMING)):
            return False
        lowest = one + 1
    return True


def is_spot_form(code, machine, thing):
    """As is_spot, of a code and a machine."""
    if not is_row(thing, 3, 3):
        return False
    row, lefts, mood = thing
    rows = code[4]
    if not is_whole(row, 0, len(rows) - 1) or not is_mood_form(code, machine, mood):
        return False
    counts = counts_around(loops_in(rows), row)
    if not is_row(lefts, len(counts), len(counts)):
        return False
    return all([is_whole(left, 1, rows[count][1]) for left, count in zip(lefts, counts)])
