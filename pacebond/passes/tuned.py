"""Tuned: passes one behind another, each kept only where the bound by it isn't greater."""

from pacebond.bounds.heights import begin_number, greatest
from pacebond.bounds.longest import paper_of
from pacebond.codes.codes import need_code
from pacebond.errors import NoPass, NoPasses, TooLong, TooWide
from pacebond.kinds import is_row, is_whole
from pacebond.machine.near import need_machine
from pacebond.machine.steps import Ground
from pacebond.machine.walks import MOST, steps_of, ticks_on
from pacebond.passes.dropped import dropped
from pacebond.passes.exchanged import exchanged
from pacebond.passes.folded import folded
from pacebond.passes.laid import laid
from pacebond.passes.threaded import threaded
from pacebond.passes.turned import turned

_PASSES = 20
_OF_ALL = ("threaded", "dropped", "folded")
_AT_A_ROW = ("exchanged", "laid", "turned")


def is_passes(thing):
    """Whether it is a row of passes."""
    return is_row(thing, 0, _PASSES) and all([is_pass(one) for one in thing])


def passed(code, one):
    """The code that one pass makes of a code."""
    need_code(code)
    if not is_pass(one):
        raise NoPasses("this is no pass")
    return by_pass(code, one)


def tuned(code, machine, passes, *, most=MOST):
    """(the code that the passes make, (word, bound ahead, bound behind) for each pass)."""
    told, last = tries(code, machine, passes, most)
    return (last[0], tuple([(word, ahead[1], None if behind is None else behind[1]) for word, ahead, behind in told]))


def tuned_paper(code, machine, passes, *, most=MOST):
    """For each pass what shows its word."""
    told, _ = tries(code, machine, passes, most)
    return tuple([shown_by(word, ahead, behind) for word, ahead, behind in told])


def shows_tuned(code, machine, passes, thing, *, most=MOST):
    """Whether it is such a paper."""
    need_tunable(code, machine, passes, most)
    if not is_row(thing, len(passes), len(passes)):
        return False
    for one, shown in zip(passes, thing):
        behind = weighed_behind(code, machine, one, most)
        if not shows_word(code, machine, behind, shown):
            return False
        if shown[0] == "kept":
            code = behind[0]
    return True


def is_pass(thing):
    """Whether it is a pass; of a row that the code hasn't, too."""
    if is_row(thing, 1, 1):
        return thing[0] in _OF_ALL
    return is_row(thing, 2, 2) and thing[0] in _AT_A_ROW and is_whole(thing[1], 0, 10 ** 40 - 1)


def by_pass(code, one):
    """As passed, of a code and a pass."""
    word = one[0]
    if word == "threaded":
        return threaded(code)
    if word == "dropped":
        return dropped(code)
    if word == "folded":
        return folded(code)
    if word == "exchanged":
        return exchanged(code, one[1])
    return laid(code, one[1]) if word == "laid" else turned(code, one[1])


def need_tunable(code, machine, passes, most):
    """What is weighed of a code; what is wrong is refused in its order."""
    need_code(code)
    need_machine(machine)
    if not is_passes(passes):
        raise NoPasses("these are no passes")
    return weighed(code, machine, most)


def weighed(code, machine, most):
    """(code, its bound, its longest walk, its least heights)."""
    return (code,) + paper_of(steps_of(code, machine, most), greatest)


def weighed_behind(code, machine, one, most):
    """What is weighed of the code that a pass makes; None where the pass is refused, or its code too wide."""
    try:
        return weighed(by_pass(code, one), machine, most)
    except (NoPass, TooLong, TooWide):
        return None


def tries(code, machine, passes, most):
    """((word, what is weighed ahead, what is weighed behind) for each pass, what is weighed of the last code kept)."""
    ahead = need_tunable(code, machine, passes, most)
    told = []
    for one in passes:
        behind = weighed_behind(ahead[0], machine, one, most)
        word = word_of(ahead, behind)
        told.append((word, ahead, behind))
        if word == "kept":
            ahead = behind
    return (told, ahead)


def word_of(ahead, behind):
    """What becomes of a pass by what is weighed ahead of it and behind it."""
    if behind is None:
        return "none"
    return "kept" if behind[1] <= ahead[1] else "left"


def shown_by(word, ahead, behind):
    """What shows a pass's word by what is weighed ahead of it and behind it."""
    if word == "none":
        return (word,)
    if word == "kept":
        return (word, ahead[2], behind[3])
    return (word, ahead[3], behind[2])


def shows_word(code, machine, behind, thing):
    """Whether it shows what becomes of a pass, with what is weighed of the code that the pass makes."""
    if behind is None:
        return thing == ("none",)
    if not is_row(thing, 3, 3):
        return False
    ahead, other = Ground(code, machine), Ground(behind[0], machine)
    if thing[0] == "kept":
        ticks, number = ticks_on(ahead, thing[1]), begin_number(other, thing[2], greatest)
        return ticks is not None and number is not None and number <= ticks
    if thing[0] == "left":
        number, ticks = begin_number(ahead, thing[1], greatest), ticks_on(other, thing[2])
        return ticks is not None and number is not None and number < ticks
    return False
