"""Walks: choices from the first spot to behind end, and the spots that they come to."""

from pacebond.codes.codes import need_code
from pacebond.codes.runs import Run, need_input, run
from pacebond.errors import NoMost, NoWalk, TooWide
from pacebond.kinds import is_whole
from pacebond.machine.moods import BEGIN
from pacebond.machine.near import need_machine
from pacebond.machine.steps import Ground, array_of, ticks_in

MOST = 1000

_GREATEST_MOST = 5000


def spots_of(code, machine, *, most=MOST):
    """All spots that walks come to, rising."""
    return tuple(sorted(steps_of(code, machine, most)))


def is_walk(code, machine, thing):
    """Whether it is a walk."""
    return ticks_on(ground_of(code, machine), thing) is not None


def walked(code, machine, walk):
    """(spot, ticks) for each step of a walk."""
    told = whole_walk(ground_of(code, machine), walk)
    return tuple([(spot, ticks_in(one)) for spot, one in told])


def spot_at(code, machine, choices):
    """The spot behind some choices from the first one, None behind end."""
    return part_walked(ground_of(code, machine), choices)[1]


def ticks_of(code, machine, walk):
    """How many ticks a walk takes."""
    told = whole_walk(ground_of(code, machine), walk)
    return sum([ticks_in(one) for _, one in told])


def misses_of(code, machine, walk):
    """How many misses a walk has."""
    told = whole_walk(ground_of(code, machine), walk)
    return len([1 for _, one in told for miss in (one[0], one[2]) if miss != 0])


def walk_of(code, machine, worths):
    """The walk of the run of an input."""
    need_code(code)
    need_machine(machine)
    need_input(code, worths)
    going = Run(code, worths)
    told = []
    while going.row is not None:
        told.append(choice_of(going))
        going.do_row()
    return tuple(told)


def ground_of(code, machine):
    """The ground of a code on a machine."""
    need_code(code)
    need_machine(machine)
    return Ground(code, machine)


def need_most(most):
    """Refuses what is no number of spots to stop at."""
    if not is_whole(most, 1, _GREATEST_MOST):
        raise NoMost("this is no number of spots to stop at")


def steps_of(code, machine, most):
    """As steps_on, of anything; what is wrong is refused in its order."""
    ground = ground_of(code, machine)
    need_most(most)
    return steps_on(ground, most)


def steps_on(ground, most):
    """For each spot that walks come to the steps of its choices; refused as too wide where there are more than most."""
    found = {}
    left = [ground.begin]
    while left:
        here = left.pop()
        if here in found:
            continue
        if len(found) == most:
            raise TooWide("walks come to too many spots")
        found[here] = ground.steps_at(here)
        left.extend([one[4] for one in found[here] if one[4] is not None])
    return found


def part_walked(ground, choices):
    """((spot, step) for each choice from the first spot, the spot behind them)."""
    if type(choices) is not tuple:
        raise NoWalk(0)
    spot = ground.begin
    told = []
    for at, choice in enumerate(choices):
        if spot is None or not ground.has_choice(spot, choice):
            raise NoWalk(at)
        one = ground.step_by(spot, choice)
        told.append((spot, one))
        spot = one[4]
    return (told, spot)


def whole_walk(ground, walk):
    """(spot, step) for each step of what has to be a walk."""
    told, spot = part_walked(ground, walk)
    if spot is not None:
        raise NoWalk(len(walk))
    return told


def ticks_on(ground, thing):
    """How many ticks it takes where it is a walk, else None."""
    try:
        told = whole_walk(ground, thing)
    except NoWalk:
        return None
    return sum([ticks_in(one) for _, one in told])


def run_steps(ground, worths):
    """The steps of the run of an input."""
    going = Run(ground.its_code, worths)
    spot = BEGIN
    told = []
    while spot is not None:
        one = ground.step_by(spot, choice_of(going))
        going.do_row()
        told.append(one)
        spot = one[4]
    return told


def run_ticks(ground, worths):
    """How many ticks the run of an input takes."""
    return sum([ticks_in(one) for one in run_steps(ground, worths)])


def timed_run(code, machine, worths):
    """(what the run of an input tells, how many ticks it takes)."""
    ground = ground_of(code, machine)
    return (run(code, worths), run_ticks(ground, worths))


def choice_of(going):
    """The choice by which a run does its row."""
    row = going.rows[going.row]
    if row[0] == "test":
        return 1 if going.jumps() else 0
    array = array_of(row)
    if array is None:
        return 0
    # Each array begins its own line, so cells 0 and 1 stand in its first, 2 and 3 in its second.
    source = row[3] if row[0] == "get" else row[2]
    return going.cell_of(array, source) // 2
