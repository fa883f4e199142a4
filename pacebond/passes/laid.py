"""Laid: a rest comes ahead of a row."""

from pacebond.codes.codes import need_code, need_short
from pacebond.errors import NoPass
from pacebond.kinds import is_whole
from pacebond.passes.rows import led_anew, with_rows


def laid(code, row):
    """The code with a rest ahead of this row; jumps to the row go behind the rest."""
    need_code(code)
    rows = code[4]
    # Behind a count it would stand where the again goes, and be done in each round.
    if not is_whole(row, 0, len(rows) - 1) or (row > 0 and rows[row - 1][0] == "count"):
        raise NoPass("no rest can be laid there")
    numbers = [at if at < row else at + 1 for at in range(len(rows))]
    moved = tuple([led_anew(one, numbers) for one in rows])
    longer = moved[:row] + (("rest",),) + moved[row:]
    need_short(longer)
    return with_rows(code, longer)
