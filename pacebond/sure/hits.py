"""Rows whose fetch, and gets and puts whose cell, is near whatever walk comes to them."""

from pacebond.codes.codes import need_row
from pacebond.errors import NoRow, NoWalk
from pacebond.kinds import is_row
from pacebond.machine.closed import choices_to, closed_steps
from pacebond.machine.steps import array_of
from pacebond.machine.walks import MOST, ground_of, need_most, part_walked, steps_of, steps_on

# Where in a step its ticks by a miss stand: of the row's line, of the cell's line.
_FETCH = 0
_CELL = 2


def sure_row(code, machine, row, *, most=MOST):
    """The paper on a row's fetch: spots that show it sure, or choices that lead to a spot where it isn't near."""
    ground = ground_for_row(code, machine, row)
    need_most(most)
    return paper_on(steps_on(ground, most), row, _FETCH)


def shows_sure_row(code, machine, row, thing):
    """Whether it is such a paper."""
    ground = ground_for_row(code, machine, row)
    if shows_sure(ground, row, thing, _FETCH):
        return True
    told = denied(ground, thing)
    if told is None:
        return False
    _, spot = told
    return spot is not None and spot[0] == row and ground.step_by(spot, 0)[_FETCH] != 0


def sure_cells(code, machine, row, *, most=MOST):
    """The paper on the cells of a get or put: spots that show them sure, or choices the last of which misses one."""
    ground = ground_for_cells(code, machine, row)
    need_most(most)
    return paper_on(steps_on(ground, most), row, _CELL)


def shows_sure_cells(code, machine, row, thing):
    """Whether it is such a paper."""
    ground = ground_for_cells(code, machine, row)
    if shows_sure(ground, row, thing, _CELL):
        return True
    told = denied(ground, thing)
    if told is None or not told[0]:
        return False
    spot, one = told[0][-1]
    return spot[0] == row and one[_CELL] != 0


def sure_rows(code, machine, *, most=MOST):
    """All rows whose fetch is sure, rising, those that no walk comes to, too."""
    steps = steps_of(code, machine, most)
    missed = {spot[0]: True for spot in steps if steps[spot][0][_FETCH] != 0}
    return tuple([row for row in range(len(code[4])) if row not in missed])


def ground_for_row(code, machine, row):
    """The ground of a code on a machine, for a row of the code."""
    ground = ground_of(code, machine)
    need_row(code, row)
    return ground


def ground_for_cells(code, machine, row):
    """The ground of a code on a machine, for a get or put of the code."""
    ground = ground_for_row(code, machine, row)
    if array_of(code[4][row]) is None:
        raise NoRow(row)
    return ground


def paper_on(steps, row, part):
    """The paper on this part of a row's steps, steps being those of all spots that walks come to."""
    missed = missing(steps, row, part)
    if not missed:
        return ("sure", tuple(sorted(steps)))
    spot, choice = missed[0]
    # The row's line is asked for ahead of any choice, the cell's by the choice.
    made_there = (choice,) if part == _CELL else ()
    return ("not", choices_to(steps, spot) + made_there)


def missing(steps, row, part):
    """Each (spot, choice) of a row by which this part of its step misses."""
    own = [spot for spot in steps if spot[0] == row]
    return [(spot, choice) for spot in own for choice, one in enumerate(steps[spot]) if one[part] != 0]


def shows_sure(ground, row, thing, part):
    """Whether it is ("sure", spots) of spots that no walk leaves and at which this part of the row's steps hits."""
    if not is_row(thing, 2, 2) or thing[0] != "sure" or type(thing[1]) is not tuple:
        return False
    steps = closed_steps(ground, thing[1])
    return steps is not None and not missing(steps, row, part)


def denied(ground, thing):
    """(spots and steps, spot behind) of the choices in ("not", choices), None of anything else."""
    if not is_row(thing, 2, 2) or thing[0] != "not":
        return None
    try:
        return part_walked(ground, thing[1])
    except NoWalk:
        return None
