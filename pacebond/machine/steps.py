"""Steps: how many ticks one row takes at a spot, and which spot is next."""

from pacebond.codes.codes import counts_around, given_by, loops_in, need_code, read_by
from pacebond.errors import NoChoice
from pacebond.kinds import is_whole
from pacebond.machine.moods import BEGIN, need_spot
from pacebond.machine.near import ask, first_line, lines_for, need_machine, row_line_brought

_TIMES_TICKS = 2
_GET_TICKS = 1


def choices_at(code, machine, spot):
    """How many choices a spot has."""
    return ground_at(code, machine, spot).choices(spot)


def step(code, machine, spot, choice):
    """(fetch, wait, cell, work, next spot) of the spot's row by a choice; None is behind end."""
    ground = ground_at(code, machine, spot)
    if not ground.has_choice(spot, choice):
        raise NoChoice("the spot has no such choice")
    return ground.step_by(spot, choice)


def steps_from(code, machine, spot):
    """The steps of all choices of a spot, in order."""
    return tuple(ground_at(code, machine, spot).steps_at(spot))


def ground_at(code, machine, spot):
    """The ground of a code on a machine, for a spot of these."""
    need_code(code)
    need_machine(machine)
    need_spot(code, machine, spot)
    return Ground(code, machine)


def ticks_in(one):
    """The ticks of a step."""
    return one[0] + one[1] + one[2] + one[3]


class Ground:
    """A code on a machine, with what its steps hang on worked out once for all of them; begin is where walks begin."""

    def __init__(self, code, machine):
        sizes, rows = code[3], code[4]
        loops = loops_in(rows)
        self.its_code = code
        self.its_machine = machine
        self.begin = BEGIN
        self.rows = rows
        self.far, self.most_rows, self.most_cells = machine
        self.depths = [len(counts_around(loops, at)) for at in range(len(rows))]
        self.read = [read_by(row) for row in rows]
        self.given = [given_by(row) for row in rows]
        self.first_lines = [first_line(sizes, array) for array in range(len(sizes))]
        self.many_lines = [lines_for(size) for size in sizes]

    def choices(self, spot):
        """How many choices a spot has."""
        row = self.rows[spot[0]]
        if row[0] == "test":
            return 2
        array = array_of(row)
        return 1 if array is None else self.many_lines[array]

    def has_choice(self, spot, choice):
        """Whether this, whatever it is, is a choice of a spot."""
        return is_whole(choice, 0, self.choices(spot) - 1)

    def steps_at(self, spot):
        """The steps of all choices of a spot, in order."""
        return [self.step_by(spot, choice) for choice in range(self.choices(spot))]

    def step_by(self, spot, choice):
        """The step of a spot by a choice that it has."""
        at, lefts, (near_rows, near_cells, coming) = spot
        fetch, near_rows = self.fetched(at, near_rows)
        wait = max([0] + [ticks - fetch for one, ticks in coming if one in self.read[at]])
        cell, near_cells = self.cell_asked(at, choice, near_cells)
        to, lefts = self.goes(at, lefts, choice)
        if to is None:
            return (fetch, wait, cell, 1, None)
        work = 1 if to == at + 1 else 2
        coming = self.coming_behind(at, coming, fetch + wait + cell + work)
        return (fetch, wait, cell, work, (to, lefts, (near_rows, near_cells, coming)))

    def fetched(self, at, near_rows):
        """(fetch, near store of rows behind it) of a row."""
        line = at // 2
        near, store = ask(near_rows, line, self.most_rows, row_line_brought(line, len(self.rows)))
        return (0 if near else self.far, store)

    def cell_asked(self, at, choice, near_cells):
        """(cell, near store of cells behind it) of a row by a choice."""
        array = array_of(self.rows[at])
        if array is None:
            return (0, near_cells)
        near, store = ask(near_cells, self.first_lines[array] + choice, self.most_cells, ())
        return (0 if near else self.far, store)

    def goes(self, at, lefts, choice):
        """(row, lefts) to which a row goes by a choice, the row None behind end."""
        row = self.rows[at]
        word = row[0]
        if word == "end":
            return (None, ())
        if word == "again" and lefts[-1] > 1:
            return (row[1], lefts[:-1] + (lefts[-1] - 1,))
        if word == "count":
            return (at + 1, lefts + (row[1],))
        jumps = word == "go" or (word == "test" and choice == 1)
        to = row[-1] if jumps else at + 1
        # No way but a count's leads into a loop, so the loops around are the first ones of those ahead.
        return (to, lefts[: self.depths[to]])

    def coming_behind(self, at, coming, ticks):
        """What is coming behind a row that took so many ticks."""
        given = self.given[at]
        left = [(one, more - ticks) for one, more in coming if more > ticks and one != given]
        if self.rows[at][0] == "*":
            left.append((given, _TIMES_TICKS))
        if self.rows[at][0] == "get":
            left.append((given, _GET_TICKS))
        return tuple(sorted(left))


def array_of(row):
    """The number of the array whose cell a row asks for, or None."""
    if row[0] == "get":
        return row[2]
    return row[1] if row[0] == "put" else None
