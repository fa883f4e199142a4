"""Heights and depths: numbers at spots which show that no walk takes more, or fewer, ticks."""

from pacebond.kinds import is_count, is_row
from pacebond.machine.closed import closed_steps
from pacebond.machine.steps import ticks_in
from pacebond.machine.walks import MOST, ground_of, steps_of


def heights_of(code, machine, *, most=MOST):
    """The least heights."""
    return numbered_spots(ticks_ahead(steps_of(code, machine, most), greatest))


def depths_of(code, machine, *, most=MOST):
    """The greatest depths."""
    return numbered_spots(ticks_ahead(steps_of(code, machine, most), least))


def shows_heights(code, machine, thing):
    """Whether it is heights, the least or others."""
    return begin_number(ground_of(code, machine), thing, greatest) is not None


def shows_depths(code, machine, thing):
    """Whether it is depths, the greatest or others."""
    return begin_number(ground_of(code, machine), thing, least) is not None


def greatest(numbers):
    """The greatest of some numbers."""
    return max(numbers)


def least(numbers):
    """The least of some numbers."""
    return min(numbers)


def ticks_ahead(steps, pick):
    """For each spot that walks come to the most or the fewest ticks that go on from it; pick is greatest or least.

    Steps are those of all these spots. None is behind end, where nothing goes on. In what is told a spot stands behind
    those to which its steps lead.
    """
    return ticks_beside({None: 0}, steps, pick)


def ticks_beside(known, steps, pick):
    """As ticks_ahead, with what is known already of None and of some of these spots."""
    ticks = {spot: known[spot] for spot in known}
    left = list(steps)
    while left:
        here = left[-1]
        if here in ticks:
            left.pop()
            continue
        ahead = [one[4] for one in steps[here] if one[4] not in ticks]
        if ahead:
            left.extend(ahead)
        else:
            ticks[here] = pick([ticks_in(one) + ticks[one[4]] for one in steps[here]])
    return ticks


def numbered_spots(ticks):
    """The rising row of (spot, number) of what is told of spots and of None."""
    spots = [spot for spot in ticks if spot is not None]
    return tuple([(spot, ticks[spot]) for spot in sorted(spots)])


def begin_number(ground, thing, pick):
    """The first spot's number where it is heights, and pick is greatest, or depths, and pick is least; else None."""
    if type(thing) is not tuple or not all([is_row(one, 2, 2) and is_count(one[1]) for one in thing]):
        return None
    steps = closed_steps(ground, [spot for spot, _ in thing])
    if steps is None:
        return None
    numbers = {spot: number for spot, number in thing}
    numbers[None] = 0
    for spot, number in thing:
        behind = [ticks_in(one) + numbers[one[4]] for one in steps[spot]]
        if pick([number] + behind) != number:
            return None
    return numbers[ground.begin]
