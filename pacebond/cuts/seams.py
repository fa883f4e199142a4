"""Seams, to which each walk comes once, and the pieces of a code between two of them."""

from pacebond.bounds.heights import begin_number, greatest, numbered_spots, ticks_ahead
from pacebond.codes.codes import JUMPS, counts_around, loops_in, need_code
from pacebond.errors import NoSeam
from pacebond.kinds import is_count
from pacebond.machine.moods import EMPTY
from pacebond.machine.steps import Ground
from pacebond.machine.walks import MOST, ground_of, need_most, steps_on, ticks_on


def seams_of(code):
    """The seams, rising."""
    need_code(code)
    return tuple(seams_in(code[4]))


def piece_bound(code, machine, seam, other, *, most=MOST):
    """How many ticks the longest walk of the piece from a seam to another one takes."""
    piece = piece_between(code, machine, seam, other)
    return ticks_ahead(piece_steps(piece, most), greatest)[piece.begin]


def piece_heights(code, machine, seam, other, *, most=MOST):
    """The least heights of the piece."""
    piece = piece_between(code, machine, seam, other)
    return numbered_spots(ticks_ahead(piece_steps(piece, most), greatest))


def shows_piece(code, machine, seam, other, thing):
    """Whether it is heights of the piece, the least or others."""
    return begin_number(piece_between(code, machine, seam, other), thing, greatest) is not None


def piece_ticks(code, machine, seam, other, thing):
    """How many ticks it takes where it is a walk of the piece, else None."""
    return ticks_on(piece_between(code, machine, seam, other), thing)


def seams_in(rows):
    """The seams of these rows, rising."""
    loops = loops_in(rows)
    leaps = [(at, row[-1]) for at, row in enumerate(rows) if row[0] in JUMPS]
    inner = [at for at in range(1, len(rows)) if counts_around(loops, at) == () and not is_passed(leaps, at)]
    return [0] + inner + [len(rows)]


def is_passed(leaps, at):
    """Whether one of these (row, row to which it jumps) passes over the row."""
    return any([row < at < to for row, to in leaps])


def piece_between(code, machine, seam, other):
    """The piece; what is wrong is refused in its order."""
    ground_of(code, machine)
    seams = seams_in(code[4])
    if not (is_count(seam) and seam in seams):
        raise NoSeam("this is no seam")
    if not (is_count(other) and other in seams and seam < other):
        raise NoSeam("this is no later seam")
    return Piece(code, machine, seam, other)


def piece_steps(piece, most):
    """For each spot that the piece's walks come to the steps of its choices."""
    need_most(most)
    # Refused as too wide is what goes on from its seam to the end, however little of it the piece itself is.
    steps_on(Piece(piece.its_code, piece.its_machine, piece.begin[0], len(piece.rows)), most)
    return steps_on(piece, most)


class Piece(Ground):
    """A code on a machine from a seam, where nothing is near or coming, to another one, which is as behind end."""

    def __init__(self, code, machine, seam, other):
        Ground.__init__(self, code, machine)
        self.begin = (seam, (), EMPTY)
        self.other = other

    def step_by(self, spot, choice):
        """The step of a spot by a choice that it has; None is where the other seam is come to."""
        fetch, wait, cell, work, to = super().step_by(spot, choice)
        return (fetch, wait, cell, work, None if to is not None and to[0] == self.other else to)
