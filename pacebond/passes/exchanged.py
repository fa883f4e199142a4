"""Exchanged: two rows that do not hang on one another change places."""

from pacebond.codes.codes import given_by, need_code, read_by
from pacebond.errors import NoPass
from pacebond.kinds import is_whole
from pacebond.machine.steps import array_of
from pacebond.passes.rows import leads, with_rows
from pacebond.text.terms import is_op

_MOVABLE = ("set", "copy", "get", "put", "rest")


def exchanged(code, row):
    """The code in which this row and the next one have changed places."""
    need_code(code)
    rows = code[4]
    if not (is_whole(row, 0, len(rows) - 2) and may_exchange(rows, row)):
        raise NoPass("these rows cannot be exchanged")
    return with_rows(code, rows[:row] + (rows[row + 1], rows[row]) + rows[row + 2:])


def may_exchange(rows, at):
    """Whether a row and the next one may be exchanged."""
    one, other = rows[at], rows[at + 1]
    if not (is_movable(one) and is_movable(other)) or meets(one, other) or meets(other, one):
        return False
    return not share_cells(one, other) and not any([leads(row) and row[-1] == at + 1 for row in rows])


def is_movable(row):
    """Whether a row is of a kind that may be exchanged."""
    return is_op(row[0]) or row[0] in _MOVABLE


def meets(one, other):
    """Whether the one row gives a register that the other one gives or reads."""
    given = given_by(one)
    return given is not None and (given == given_by(other) or given in read_by(other))


def share_cells(one, other):
    """Whether both are of one array, and one of them puts."""
    return array_of(one) == array_of(other) and "put" in (one[0], other[0])
