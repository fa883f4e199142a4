"""Dropped: rows go out that do nothing, or nothing that is read."""

from pacebond.codes.codes import JUMPS, given_by, loops_in, need_code, read_by, rows_come_to, ways_in
from pacebond.passes.rows import led_anew, with_rows


def dropped(code):
    """The code without all that drops, again and again till there is none."""
    need_code(code)
    out = rows_out(code)
    while out:
        code = without(code, out)
        out = rows_out(code)
    return code


def dead_rows(code):
    """The set, copy, op and get rows, rising, whose register no way behind them reads ahead of giving it again."""
    need_code(code)
    return tuple(dead_in(code))


def rows_out(code):
    """{row: True} of the rows that may go out of a code at once."""
    rows = code[4]
    come = rows_come_to(rows)
    out = {row: True for row in range(len(rows)) if row not in come or is_idle(rows, row)}
    for count, again in loops_in(rows):
        if again not in come or again == count + 1:
            out[count] = True
            out[again] = True
    out.update({row: True for row in dead_in(code)})
    return out


def is_idle(rows, row):
    """Whether a row is a rest, or a jump to the next row."""
    return rows[row][0] == "rest" or (rows[row][0] in JUMPS and rows[row][-1] == row + 1)


def without(code, out):
    """The code without some rows; what went to one of them goes to the next one that stays."""
    rows = code[4]
    numbers = []
    stay = []
    for at, row in enumerate(rows):
        numbers.append(len(stay))
        if at not in out:
            stay.append(row)
    return with_rows(code, [led_anew(row, numbers) for row in stay])


def dead_in(code):
    """As dead_rows, of a code."""
    rows = code[4]
    live = live_ahead(code)
    given = [(at, given_by(row)) for at, row in enumerate(rows) if given_by(row) is not None]
    return [at for at, one in given if not any([one in live[to] for to in ways_in(rows, at)])]


def live_ahead(code):
    """For each row the registers, rising, that are read from it on ahead of being given."""
    rows = code[4]
    live = [()] * len(rows)
    going = True
    while going:
        going = False
        for at in reversed(range(len(rows))):
            found = live_at(code, at, live)
            if found != live[at]:
                live[at] = found
                going = True
    return live


def live_at(code, at, live):
    """What is read from one row on ahead of being given, as far as it is known of the rows to which it leads."""
    rows = code[4]
    if rows[at][0] == "end":
        return tuple(range(code[2]))
    behind = [one for to in ways_in(rows, at) for one in live[to] if one != given_by(rows[at])]
    return tuple(sorted(set(behind + list(read_by(rows[at])))))
