"""The inputs whose runs take longest, and the slack between these and the longest walk."""

from pacebond.bounds.heights import begin_number, greatest, numbered_spots, ticks_ahead
from pacebond.bounds.longest import bound_of, walk_by
from pacebond.codes.codes import need_code
from pacebond.codes.runs import inputs
from pacebond.errors import Unlike
from pacebond.kinds import fits, is_row
from pacebond.machine.moods import BEGIN
from pacebond.machine.walks import MOST, ground_of, run_ticks, steps_of, ticks_on


def worst_of(code, machine):
    """(ticks, worths): the most ticks that a run takes, the first input whose run takes them."""
    runs = timed(code, machine)
    ticks = max([one for one, _ in runs])
    return (ticks, [worths for one, worths in runs if one == ticks][0])


def spread_of(code, machine):
    """The rising row of (ticks, how many inputs' runs take so long, the first of them)."""
    runs = timed(code, machine)
    by_ticks = {}
    for ticks, worths in runs:
        by_ticks.setdefault(ticks, []).append(worths)
    return tuple([(ticks, len(by_ticks[ticks]), by_ticks[ticks][0]) for ticks in sorted(by_ticks)])


def slower(code, other, machine):
    """The first input whose run takes longer by the other code, None of none."""
    need_code(code)
    need_code(other)
    if code[0] != other[0]:
        raise Unlike("the two codes have unlike asks")
    for (ticks, worths), (more, _) in zip(timed(code, machine), timed(other, machine)):
        if more > ticks:
            return worths
    return None


def slack_of(code, machine, *, most=MOST):
    """The bound less the most ticks that a run takes."""
    return bound_of(code, machine, most=most) - worst_of(code, machine)[0]


def sharp(code, machine, *, most=MOST):
    """The paper of an input whose run takes as long as any walk, or of a walk that takes longer than any run."""
    steps = steps_of(code, machine, most)
    most_ticks, worths = worst_of(code, machine)
    ticks = ticks_ahead(steps, greatest)
    if ticks[BEGIN] == most_ticks:
        return ("sharp", worths, numbered_spots(ticks))
    return ("slack", worths, walk_by(BEGIN, steps, ticks))


def shows_sharp(code, machine, thing, *, most=MOST):
    """Whether it is such a paper."""
    # Nothing of the spots is needed to judge it, but more of them than most are refused here, too.
    steps_of(code, machine, most)
    runs = timed(code, machine)
    if not is_row(thing, 3, 3) or not fits(thing[1], code[0]):
        return False
    ground = ground_of(code, machine)
    word, worths, shown = thing
    ticks = run_ticks(ground, worths)
    if word == "sharp":
        return begin_number(ground, shown, greatest) == ticks
    walked_ticks = ticks_on(ground, shown)
    if word != "slack" or walked_ticks is None:
        return False
    return ticks == max([one for one, _ in runs]) and walked_ticks > ticks


def timed(code, machine):
    """(ticks, worths) of the run of each input, inputs rising."""
    ground = ground_of(code, machine)
    return [(run_ticks(ground, worths), worths) for worths in inputs(code)]
