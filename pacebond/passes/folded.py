"""Folded: what is known ahead of a row is worked out at once."""

from pacebond.codes.codes import given_by, need_code, read_by, ways_in
from pacebond.passes.rows import with_rows
from pacebond.text.terms import OPS


def known_of(code):
    """For each row the rising (register, worth) known ahead of it, None where growing doesn't come to it."""
    need_code(code)
    known = known_in(code)
    return tuple([told_worths(known[row]) if row in known else None for row in range(len(code[4]))])


def folded(code):
    """The code whose copies, ops and tests of known registers are worked out."""
    need_code(code)
    known = known_in(code)
    return with_rows(code, [folded_row(row, known[at]) if at in known else row for at, row in enumerate(code[4])])


def told_worths(worths):
    """The rising row of (register, worth) of what is told by register."""
    return tuple([(one, worths[one]) for one in sorted(worths)])


def known_in(code):
    """{row: {register: worth}} of the rows to which growing comes.

    At each row it begins with what the first way there knows, and only takes away: the order of ways makes no odds.
    """
    asks, many, _, _, rows = code
    known = {0: {one: 0 for one in range(len(asks), many)}}
    left = [0]
    while left:
        at = left.pop()
        behind = known_behind(rows[at], known[at])
        for to in ways_grown(rows, at, known[at]):
            alike = shared(known[to], behind) if to in known else behind
            if to not in known or alike != known[to]:
                known[to] = alike
                left.append(to)
    return known


def shared(worths, others):
    """The registers, with their worths, that have the same worth in both."""
    return {one: worth for one, worth in worths.items() if others.get(one) == worth}


def known_behind(row, worths):
    """{register: worth} behind a row of what is known ahead of it."""
    given = given_by(row)
    behind = {one: worth for one, worth in worths.items() if one != given}
    made = worth_made(row, worths)
    if made is not None:
        behind[row[1]] = made
    return behind


def worth_made(row, worths):
    """The worth that a set, copy or op gives by what is known ahead of it; None where it isn't known."""
    if row[0] == "set":
        return row[2]
    if not are_known(row, worths):
        return None
    if row[0] == "copy":
        return worths[row[2]]
    if row[0] not in OPS:
        return None
    op = OPS[row[0]]
    return op(worths[row[2]], worths[row[3]])


def are_known(row, worths):
    """Whether all registers that a row reads are known."""
    return all([one in worths for one in read_by(row)])


def ways_grown(rows, at, worths):
    """The rows to which growing goes from row at: a test of a known register leads one way alone."""
    row = rows[at]
    if row[0] == "test" and row[1] in worths:
        return (row[2],) if worths[row[1]] == 0 else (at + 1,)
    return ways_in(rows, at)


def folded_row(row, worths):
    """A row, by what is known ahead of it."""
    made = worth_made(row, worths)
    if made is not None:
        return ("set", row[1], made)
    if row[0] == "test" and row[1] in worths:
        return ("go", row[2]) if worths[row[1]] == 0 else ("rest",)
    return row
