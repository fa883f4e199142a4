"""Cuts: a code in as few pieces as can be, none of which takes longer than a share."""

from pacebond.bounds.heights import begin_number, greatest, numbered_spots, ticks_ahead
from pacebond.bounds.longest import walk_by
from pacebond.cuts.seams import Piece, seams_in
from pacebond.errors import NoShare
from pacebond.kinds import are_rising, is_count, is_row
from pacebond.machine.steps import ticks_in
from pacebond.machine.walks import MOST, ground_of, need_most, steps_on, ticks_on


def cut_of(code, machine, share, *, most=MOST):
    """("cut", seams) of the fewest pieces within the share, or ("none", seams) that such pieces lead to."""
    led = leads_within(code, machine, share, most)
    left = pieces_left(led)
    if 0 not in left:
        return ("none", tuple(sorted(numbers_by(led))))
    cut = [0]
    while left[cut[-1]] > 0:
        here = cut[-1]
        cut.append([to for to in led[here] if left.get(to) == left[here] - 1][0])
    return ("cut", tuple(cut))


def cut_paper(code, machine, share, *, most=MOST):
    """(numbers, pieces, walks): the paper of a cut, or of none."""
    led = leads_within(code, machine, share, most)
    numbers = numbers_by(led)
    told = sorted(numbers)
    pieces = []
    for to in told[1:]:
        seam = [one for one in told if to in led[one] and numbers[one] == numbers[to] - 1][0]
        pieces.append((seam, heights_on(Piece(code, machine, seam, to), most)))
    walks = []
    for seam in told:
        beyond = first_beyond(list(led), numbers, seam)
        walks.append(None if beyond is None else walk_on(Piece(code, machine, seam, beyond), most))
    return (tuple([(seam, numbers[seam]) for seam in told]), tuple(pieces), tuple(walks))


def shows_cut(code, machine, share, thing, *, most=MOST):
    """Whether it is such a paper."""
    seams = list(leads_within(code, machine, share, most))
    if not is_row(thing, 3, 3) or not are_numbers(thing[0], seams):
        return False
    numbers = {seam: number for seam, number in thing[0]}
    told = list(numbers)
    if not (is_row(thing[1], len(told) - 1, len(told) - 1) and is_row(thing[2], len(told), len(told))):
        return False
    if not all([leads_to(code, machine, share, numbers, to, one) for to, one in zip(told[1:], thing[1])]):
        return False
    beyond = [first_beyond(seams, numbers, seam) for seam in told]
    return all([stops(code, machine, share, seam, to, one) for seam, to, one in zip(told, beyond, thing[2])])


def leads_within(code, machine, share, most):
    """{seam: the later seams to which a piece within the share leads}, rising; refused is what is wrong, in order."""
    ground_of(code, machine)
    if not (is_count(share) and share > 0):
        raise NoShare("this is no share")
    need_most(most)
    seams = seams_in(code[4])
    led = {}
    for seam in seams[:-1]:
        bounds = bounds_from(Piece(code, machine, seam, len(code[4])), most)
        led[seam] = [to for to in seams if to > seam and bounds[to] <= share]
    led[len(code[4])] = []
    return led


def bounds_from(piece, most):
    """{row: the most ticks by which a walk from the piece's seam comes to it}, the piece being one to behind end."""
    steps = steps_on(piece, most)
    came = {piece.begin: 0}
    bounds = {}
    # A spot stands there behind those to which its steps lead, so backwards each comes ahead of these.
    for spot in reversed(list(ticks_ahead(steps, greatest))):
        row = len(piece.rows) if spot is None else spot[0]
        bounds[row] = max(bounds.get(row, 0), came[spot])
        if spot is not None:
            for one in steps[spot]:
                came[one[4]] = max(came.get(one[4], 0), came[spot] + ticks_in(one))
    return bounds


def numbers_by(led):
    """{seam: the fewest pieces that lead to it from 0} of all to which such pieces lead."""
    numbers = {0: 0}
    for seam in led:
        if seam in numbers:
            for to in led[seam]:
                numbers[to] = min(numbers.get(to, len(led)), numbers[seam] + 1)
    return numbers


def pieces_left(led):
    """{seam: the fewest pieces that lead from it to the last one} of all from which such pieces lead there."""
    seams = list(led)
    left = {seams[-1]: 0}
    for seam in seams[::-1]:
        found = [left[to] + 1 for to in led[seam] if to in left]
        if found:
            left[seam] = min(found)
    return left


def first_beyond(seams, numbers, seam):
    """The first seam behind one with a number that has none, or one greater by more than 1, else None."""
    for to in seams:
        if to > seam and (to not in numbers or numbers[to] > numbers[seam] + 1):
            return to
    return None


def heights_on(piece, most):
    """The least heights of a piece."""
    return numbered_spots(ticks_ahead(steps_on(piece, most), greatest))


def walk_on(piece, most):
    """The longest walk of a piece."""
    steps = steps_on(piece, most)
    return walk_by(piece.begin, steps, ticks_ahead(steps, greatest))


def are_numbers(thing, seams):
    """Whether it is a rising row of (seam, number), no seam twice, 0's number, 0, among them."""
    if type(thing) is not tuple or not all([is_row(one, 2, 2) for one in thing]):
        return False
    if not all([is_count(seam) and seam in seams and is_count(number) for seam, number in thing]):
        return False
    return are_rising([seam for seam, _ in thing]) and (0, 0) in thing


def leads_to(code, machine, share, numbers, to, thing):
    """Whether it is (seam, heights), the seam's number one less, the heights of a piece within the share from it."""
    if not is_row(thing, 2, 2) or not is_count(thing[0]):
        return False
    seam, heights = thing
    if not (seam < to and seam in numbers and numbers[seam] == numbers[to] - 1):
        return False
    number = begin_number(Piece(code, machine, seam, to), heights, greatest)
    return number is not None and number <= share


def stops(code, machine, share, seam, to, thing):
    """Whether it is a walk from a seam to another one that takes longer than the share, None where that is None."""
    if to is None:
        return thing is None
    ticks = ticks_on(Piece(code, machine, seam, to), thing)
    return ticks is not None and ticks > share
