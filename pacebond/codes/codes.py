"""Codes: their form, their loops, and the ways from row to row."""

from pacebond.errors import NoCode, NoRow, TooLong
from pacebond.kinds import fits, is_row, is_whole
from pacebond.text.terms import WORTHS, is_op, is_worth

JUMPS = ("test", "go")

_ASKS = 3
_REGISTERS = 16
_ARRAYS = 2
_CELLS = 6
_ROWS = 60
_ROUNDS = 6
_LOOPS_WITHIN = 2

# What stands behind a row's word: a register, a worth, an array, a row, a number of rounds.
_FORMS = {
    "set": "rw",
    "copy": "rr",
    "get": "rar",
    "put": "arr",
    "test": "rn",
    "go": "n",
    "count": "m",
    "again": "n",
    "rest": "",
    "end": "",
}
_OP_FORM = "rrr"

# Where in a row the registers stand that it reads.
_READS = {"copy": (2,), "get": (3,), "put": (2, 3), "test": (1,)}
_OP_READS = (2, 3)
_GIVES = ("set", "copy", "get")


def is_code(thing):
    """Whether it is a code."""
    if not is_row(thing, 5, 5):
        return False
    asks, many, shown, arrays, rows = thing
    if not (is_row(asks, 0, _ASKS) and all([is_span(ask) for ask in asks])):
        return False
    if not (is_whole(many, max(1, len(asks)), _REGISTERS) and is_whole(shown, 0, many)):
        return False
    if not (is_row(arrays, 0, _ARRAYS) and all([is_whole(size, 1, _CELLS) for size in arrays])):
        return False
    if not is_row(rows, 1, _ROWS):
        return False
    if not all([is_row_form(row, many, len(arrays), len(rows)) for row in rows]):
        return False
    return ends_well(rows) and loops_well(rows) and jumps_well(rows)


def need_code(code):
    """Refuses what is no code."""
    if not is_code(code):
        raise NoCode("this is no code")


def need_row(code, row):
    """Refuses what is no number of a row of the code."""
    if not is_whole(row, 0, len(code[4]) - 1):
        raise NoRow(row)


def need_short(rows):
    """Refuses more rows than a code may have."""
    if len(rows) > _ROWS:
        raise TooLong("there would be too many rows")


def loops_of(code):
    """The loops as (count's row, again's row), rising."""
    need_code(code)
    return tuple(loops_in(code[4]))


def around(code, row):
    """The counts' rows of the loops in whose rows the row stands, the outer one first."""
    need_code(code)
    need_row(code, row)
    return counts_around(loops_in(code[4]), row)


def ways_from(code, row):
    """The rows to which ways lead from a row, rising."""
    need_code(code)
    need_row(code, row)
    return ways_in(code[4], row)


def come_to(code):
    """The rows that are come to, rising."""
    need_code(code)
    return tuple(rows_come_to(code[4]))


def reads(code, row):
    """The registers that a row reads, rising."""
    need_code(code)
    need_row(code, row)
    return read_by(code[4][row])


def gives(code, row):
    """The register that a row gives, or None."""
    need_code(code)
    need_row(code, row)
    return given_by(code[4][row])


def rows_come_to(rows):
    """The numbers of those rows that are come to, rising."""
    found = {0: True}
    left = [0]
    while left:
        here = left.pop()
        for to in ways_in(rows, here):
            if to not in found:
                found[to] = True
                left.append(to)
    return sorted(found)


def is_span(thing):
    """Whether it is (low, high)."""
    if not is_row(thing, 2, 2):
        return False
    low, high = thing
    return is_worth(low) and is_worth(high) and low <= high


def is_row_form(thing, many, arrays, rows):
    """Whether it is a row, by its form alone, of a code of so many registers, arrays and rows."""
    if not is_row(thing, 1, 4):
        return False
    word = thing[0]
    if type(word) is not str:
        return False
    form = _OP_FORM if is_op(word) else _FORMS.get(word)
    if form is None:
        return False
    spans = {"r": (0, many - 1), "w": (0, WORTHS - 1), "a": (0, arrays - 1), "n": (0, rows - 1), "m": (1, _ROUNDS)}
    return fits(thing[1:], [spans[sign] for sign in form])


def is_some_row(thing):
    """Whether it is a row that some code may have."""
    if not is_row_form(thing, _REGISTERS, _ARRAYS, _ROWS):
        return False
    if thing[0] in JUMPS:
        return thing[-1] > 0
    # A count stands ahead of where an again leads, and an end behind the again.
    return thing[0] != "again" or 0 < thing[1] < _ROWS - 1


def ends_well(rows):
    """Whether the last row, and only that, is end."""
    return [at for at, row in enumerate(rows) if row[0] == "end"] == [len(rows) - 1]


def loops_in(rows):
    """A pair (count's row, again's row) for each again, rising."""
    return sorted([(row[1] - 1, at) for at, row in enumerate(rows) if row[0] == "again"])


def loops_well(rows):
    """Whether counts and agains make loops, and these stand beside and within one another as they may."""
    loops = loops_in(rows)
    counts = [at for at, row in enumerate(rows) if row[0] == "count"]
    # loops rise, so each count has just one again where their counts' rows are just these.
    if [count for count, _ in loops] != counts or not all([count < again for count, again in loops]):
        return False
    return all([stands_well(loop, loops) for loop in loops])


def stands_well(loop, loops):
    """Whether a loop crosses none of the loops, and stands within no more of them than it may."""
    count, again = loop
    outer = [back for other, back in loops if other < count < back]
    return len(outer) < _LOOPS_WITHIN and all([again < back for back in outer])


def jumps_well(rows):
    """Whether each jump leads on, and into a loop's rows only from the same loop's."""
    loops = loops_in(rows)
    for at, row in enumerate(rows):
        if row[0] in JUMPS:
            to = row[-1]
            entered = [count for count in counts_around(loops, to) if count not in counts_around(loops, at)]
            if to <= at or entered:
                return False
    return True


def counts_around(loops, row):
    """The counts' rows of those rising loops in whose rows the row stands, the outer one first."""
    return tuple([count for count, again in loops if count < row <= again])


def ways_in(rows, at):
    """The rows to which ways lead from row at, rising."""
    row = rows[at]
    word = row[0]
    if word == "end":
        return ()
    if word == "go":
        return (row[1],)
    if word == "test" and row[2] != at + 1:
        return (at + 1, row[2])
    if word == "again" and rows[row[1] - 1][1] != 1:
        return (row[1], at + 1)
    return (at + 1,)


def read_by(row):
    """The registers that a row reads, rising."""
    places = _OP_READS if is_op(row[0]) else _READS.get(row[0], ())
    return tuple(sorted(set([row[place] for place in places])))


def given_by(row):
    """The register that a row gives, or None."""
    return row[1] if is_op(row[0]) or row[0] in _GIVES else None
