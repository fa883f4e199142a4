"""Runs of codes: what they tell, and the rows that they come to."""

from pacebond.codes.codes import counts_around, loops_in, need_code
from pacebond.errors import NoInput, NoNumber, TooWide
from pacebond.kinds import fits, is_whole
from pacebond.text.terms import OPS

INPUTS = 400


def is_input(code, thing):
    """Whether it is an input of the code."""
    need_code(code)
    return fits(thing, code[0])


def need_input(code, worths):
    """Refuses what is no input of a code."""
    if not fits(worths, code[0]):
        raise NoInput("this is no input of the code")


def inputs(code):
    """All inputs of the code, rising."""
    need_code(code)
    many = 1
    for low, high in code[0]:
        many = many * (high - low + 1)
    if many > INPUTS:
        raise TooWide("the code has too many inputs")
    told = [()]
    for low, high in code[0]:
        told = [begun + (worth,) for begun in told for worth in range(low, high + 1)]
    return tuple(told)


def run(code, worths):
    """What the code tells: the worths of the registers that are shown, and the arrays' cells."""
    going = begin(code, worths)
    while going.row is not None:
        going.do_row()
    return (tuple(going.worths[: code[2]]), going.all_cells())


def trace(code, worths):
    """The rows that the run comes to, one behind another, end last."""
    going = begin(code, worths)
    told = []
    while going.row is not None:
        told.append(going.row)
        going.do_row()
    return tuple(told)


def stand(code, worths, many):
    """(row, lefts, worths of all registers, arrays' cells) as the trace comes to the row so numbered."""
    if not is_whole(many, 0, len(trace(code, worths)) - 1):
        raise NoNumber(many)
    going = begin(code, worths)
    for _ in range(many):
        going.do_row()
    return (going.row, going.lefts(), tuple(going.worths), going.all_cells())


def begin(code, worths):
    """A run of the code on this input, at row 0."""
    need_code(code)
    need_input(code, worths)
    return Run(code, worths)


class Run:
    """A run that goes row by row; its row is the one that it does next, None behind end."""

    def __init__(self, code, worths):
        asks, many, _, arrays, rows = code
        self.rows = rows
        self.loops = loops_in(rows)
        self.worths = list(worths) + [0] * (many - len(asks))
        self.cells = [[0] * size for size in arrays]
        # Rounds left by the count's row; what a jump left there is given anew by the count.
        self.rounds_left = {}
        self.row = 0

    def lefts(self):
        """For each loop in whose rows it stands, the outer one first, how many rounds are left."""
        return tuple([self.rounds_left[count] for count in counts_around(self.loops, self.row)])

    def all_cells(self):
        """The arrays' cells."""
        return tuple([tuple(cells) for cells in self.cells])

    def cell_of(self, array, source):
        """The number of the array's cell that a register means."""
        return self.worths[source] % len(self.cells[array])

    def jumps(self):
        """Whether it goes to the row of the test that it is at."""
        return self.worths[self.rows[self.row][1]] == 0

    def do_row(self):
        """Does its row, and goes to the next one."""
        row = self.rows[self.row]
        word = row[0]
        if word in OPS:
            op = OPS[word]
            self.worths[row[1]] = op(self.worths[row[2]], self.worths[row[3]])
        elif word == "set":
            self.worths[row[1]] = row[2]
        elif word == "copy":
            self.worths[row[1]] = self.worths[row[2]]
        elif word == "get":
            self.worths[row[1]] = self.cells[row[2]][self.cell_of(row[2], row[3])]
        elif word == "put":
            self.cells[row[1]][self.cell_of(row[1], row[2])] = self.worths[row[3]]
        elif word == "count":
            self.rounds_left[self.row] = row[1]
        self.row = self.row_behind(row)

    def row_behind(self, row):
        """The row to which it goes from its row, None behind end."""
        word = row[0]
        if word == "end":
            return None
        if word == "go":
            return row[1]
        if word == "test" and self.jumps():
            return row[2]
        if word == "again" and self.rounds_left[row[1] - 1] > 1:
            self.rounds_left[row[1] - 1] -= 1
            return row[1]
        return self.row + 1
