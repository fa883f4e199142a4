"""Turned: a loop's first round stands ahead of it by itself."""

from pacebond.codes.codes import loops_in, need_code, need_short
from pacebond.errors import NoPass
from pacebond.kinds import is_whole
from pacebond.passes.rows import led_anew, with_rows


def turned(code, row):
    """The code in which the first round of this count's loop stands ahead of it, which has one round fewer."""
    need_code(code)
    rows = code[4]
    if not is_whole(row, 0, len(rows) - 1) or rows[row][0] != "count":
        raise NoPass("there is no loop to turn")
    again = [back for count, back in loops_in(rows) if count == row][0]
    longer = turned_rows(rows, row, again)
    need_short(longer)
    return with_rows(code, longer)


def turned_rows(rows, count, again):
    """These rows with the loop from count to again turned."""
    between = rows[count + 1: again]
    rounds = rows[count][1]
    # Behind the copy stands the loop, or, where its only round is the copy, what stood behind its again.
    more = len(between) if rounds > 1 else -2
    # What went to the count, a jump or the again of a loop around it, goes to the copy, which begins where it stood.
    stayed = [at if at <= count else at + more for at in range(len(rows))]
    copied = [at - 1 if count < at <= again else stayed[at] for at in range(len(rows))]
    ahead = [led_anew(row, stayed) for row in rows[:count]]
    first = [led_anew(row, copied) for row in between]
    behind = [led_anew(row, stayed) for row in rows[again + 1:]]
    if rounds == 1:
        return ahead + first + behind
    loop = [("count", rounds - 1)] + [led_anew(row, stayed) for row in rows[count + 1: again + 1]]
    return ahead + first + loop + behind
