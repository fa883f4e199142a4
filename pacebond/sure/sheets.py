"""Sheets: for each row the lines that are near whatever walk comes to it, and how old they are at most."""

from pacebond.codes.codes import need_code, need_row, rows_come_to, ways_in
from pacebond.errors import NoSheet
from pacebond.kinds import are_rising, is_row, is_whole
from pacebond.machine.near import line_of_row, lines_for, need_machine


def behind_row(code, machine, row, lines):
    """The (line, age) behind a row, rising; lines are what a sheet tells of it."""
    need_code(code)
    need_machine(machine)
    need_row(code, row)
    if not are_aged(code, machine, lines):
        raise NoSheet("no sheet tells this of a row")
    return aged_lines(ages_behind(row, ages_of(lines), machine))


def sheet_of(code, machine):
    """The full sheet."""
    need_code(code)
    need_machine(machine)
    ages = full_ages(code, machine)
    return tuple([aged_lines(ages[row]) if row in ages else None for row in range(len(code[4]))])


def is_sheet(code, machine, thing):
    """Whether it is a sheet that holds."""
    need_code(code)
    need_machine(machine)
    return holds(code, machine, thing)


def hits_by(code, machine, sheet):
    """The rows whose line is in theirs by a sheet that holds, rising."""
    need_code(code)
    need_machine(machine)
    if not holds(code, machine, sheet):
        raise NoSheet("this is no sheet that holds")
    return tuple([row for row, lines in enumerate(sheet) if lines is not None and line_of_row(row) in ages_of(lines)])


def are_aged(code, machine, thing):
    """Whether it is a rising row of (line, age), no line twice, as a sheet may tell of a row."""
    if type(thing) is not tuple or not all([is_row(one, 2, 2) for one in thing]):
        return False
    last, oldest = lines_for(len(code[4])) - 1, machine[1] - 1
    if not all([is_whole(line, 0, last) and is_whole(age, 0, oldest) for line, age in thing]):
        return False
    return are_rising([line for line, _ in thing])


def ages_of(lines):
    """{line: age} of a row of (line, age)."""
    return {line: age for line, age in lines}


def aged_lines(ages):
    """The rising row of (line, age) of what is told by line."""
    return tuple([(line, ages[line]) for line in sorted(ages)])


def ages_behind(row, ages, machine):
    """{line: age} behind a row, ages being those ahead of it."""
    own = line_of_row(row)
    told = {line: age_behind(age, ages.get(own)) for line, age in ages.items()}
    told[own] = 0
    return {line: age for line, age in told.items() if age < machine[1]}


def age_behind(age, own):
    """The age that another line has behind a row whose own line has an age ahead of it, or None."""
    if own is None:
        # It may miss, and then the next line comes with it.
        return age + 2
    return age + 1 if age < own else age


def full_ages(code, machine):
    """{line: age} by the full sheet for each row that is come to.

    It begins with all lines at age 0, more than any sheet tells, and takes away only what the ways do not bear out.
    """
    rows = code[4]
    come = rows_come_to(rows)
    every = {line: 0 for line in range(lines_for(len(rows)))}
    ages = {row: every for row in come}
    ages[0] = {}
    ways = [(row, to) for row in come for to in ways_in(rows, row)]
    going = True
    while going:
        going = False
        for row, to in ways:
            borne = borne_out(ages[to], ages_behind(row, ages[row], machine))
            if borne != ages[to]:
                ages[to] = borne
                going = True
    return ages


def borne_out(ages, behind):
    """Of these ages what is behind the row ahead, too, at the greater age of the two."""
    return {line: max(age, behind[line]) for line, age in ages.items() if line in behind}


def holds(code, machine, thing):
    """Whether it is a sheet that holds, of a code and a machine."""
    rows = code[4]
    if not is_row(thing, len(rows), len(rows)):
        return False
    if not all([one is None or are_aged(code, machine, one) for one in thing]):
        return False
    told = [row for row, lines in enumerate(thing) if lines is not None]
    return thing[0] == () and all([row_holds(rows, machine, thing, row) for row in told])


def row_holds(rows, machine, sheet, row):
    """Whether each way from a row leads to one of which the sheet tells nothing but what is behind the first."""
    behind = ages_behind(row, ages_of(sheet[row]), machine)
    ahead = [sheet[to] for to in ways_in(rows, row)]
    return all([lines is not None and are_behind(lines, behind) for lines in ahead])


def are_behind(lines, behind):
    """Whether these lines are all among those behind a row, at ages no less than there."""
    return all([line in behind and age >= behind[line] for line, age in lines])
