"""Threaded: jumps go past rests and gos at once."""

from pacebond.codes.codes import JUMPS, need_code
from pacebond.passes.rows import with_rows


def threaded(code):
    """The code whose jumps to rests and to gos go where these lead."""
    need_code(code)
    rows = code[4]
    return with_rows(code, [threaded_row(rows, row) for row in rows])


def threaded_row(rows, row):
    """A row of these, a jump going where the rests and gos to which it goes lead."""
    return row[:-1] + (led_on(rows, row[-1]),) if row[0] in JUMPS else row


def led_on(rows, to):
    """The first row that is no rest and no go to which those from row to on lead."""
    while rows[to][0] in ("rest", "go"):
        to = rows[to][1] if rows[to][0] == "go" else to + 1
    return to
