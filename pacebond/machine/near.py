"""Machines, lines, and near stores."""

from pacebond.codes.codes import need_code
from pacebond.errors import NoMachine, NoNumber, NoStore
from pacebond.kinds import are_unlike, is_count, is_row, is_whole

_FAR = 20
_LINES = 4


def is_machine(thing):
    """Whether it is a machine."""
    if not is_row(thing, 3, 3):
        return False
    far, rows, cells = thing
    return is_whole(far, 1, _FAR) and is_whole(rows, 1, _LINES) and is_whole(cells, 1, _LINES)


def need_machine(machine):
    """Refuses what is no machine."""
    if not is_machine(machine):
        raise NoMachine("this is no machine")


def line_of_row(row):
    """The line of the row of this number."""
    if not is_count(row):
        raise NoNumber(row)
    return row // 2


def line_of_cell(code, array, cell):
    """The line of an array's cell."""
    need_code(code)
    need_array(code, array)
    if not is_whole(cell, 0, code[3][array] - 1):
        raise NoNumber(cell)
    return first_line(code[3], array) + cell // 2


def lines_of(code, array):
    """The lines in which an array has cells, rising."""
    need_code(code)
    need_array(code, array)
    first = first_line(code[3], array)
    return tuple(range(first, first + lines_for(code[3][array])))


def need_array(code, array):
    """Refuses what is no number of an array of the code."""
    if not is_whole(array, 0, len(code[3]) - 1):
        raise NoNumber(array)


def asked(store, line, size, *, brought=()):
    """(whether the line is near, the store behind it)."""
    if not (is_store(store) and len(store) <= (size if is_whole(size, 1, _LINES) else _LINES)):
        raise NoStore("this is no near store")
    if not is_count(line):
        raise NoNumber(line)
    if not is_whole(size, 1, _LINES):
        raise NoNumber(size)
    if not is_store(brought) or line in brought:
        raise NoStore("a miss cannot bring these lines")
    return ask(store, line, size, brought)


def is_store(thing):
    """Whether it is a row of unlike lines, however many."""
    return type(thing) is tuple and all([is_count(line) for line in thing]) and are_unlike(thing)


def ask(store, line, size, brought):
    """As asked, of what is well."""
    if line in store:
        return (True, (line,) + tuple([other for other in store if other != line]))
    first = (line,) + brought
    return (False, (first + tuple([other for other in store if other not in first]))[:size])


def lines_for(many):
    """How many lines so many rows, or cells of one array, take."""
    return (many + 1) // 2


def first_line(sizes, array):
    """The first line of an array; as each begins at an even number, no line has cells of two."""
    return sum([lines_for(size) for size in sizes[:array]])


def row_line_brought(line, many):
    """The lines that a miss of a row's line brings, in a code of so many rows."""
    return (line + 1,) if line + 1 < lines_for(many) else ()
