"""Works together on one wire, and the bound that holds whoever is beside."""

from pacebond.bounds.heights import begin_number, greatest, numbered_spots, ticks_ahead
from pacebond.codes.codes import is_code
from pacebond.codes.runs import is_input
from pacebond.errors import NoNumber, NoWorks
from pacebond.kinds import is_row, is_whole
from pacebond.machine.moods import BEGIN
from pacebond.machine.near import need_machine
from pacebond.machine.steps import Ground
from pacebond.machine.walks import MOST, ground_of, need_most, steps_on
from pacebond.wire.gaps import gaps_on

_WORKS = 4
_LATEST = 1000000


def is_works(thing):
    """Whether it is a row of works."""
    return is_row(thing, 1, _WORKS) and all([is_work(one) for one in thing])


def played(machine, works):
    """((work, moment at which it asked, moment at which it was served) for each service, the moments of the ends)."""
    need_machine(machine)
    if not is_works(works):
        raise NoWorks("these are no works")
    gaps = [gaps_on(Ground(code, machine), worths) for code, worths, _ in works]
    # The moment at which each asks next; behind its last gap it asks no more, and this is its end.
    moments = [work[2] + own[0] for work, own in zip(works, gaps)]
    done = [1] * len(works)
    services = []
    free = 0
    # The first in the round behind the last one is 0.
    last = len(works) - 1
    asking = still_asking(gaps, done)
    while asking:
        now = max(free, min([moments[at] for at in asking]))
        last = first_behind(last, [at for at in asking if moments[at] <= now])
        services.append((last, moments[last], now))
        free = now + machine[0]
        moments[last] = free + gaps[last][done[last]]
        done[last] += 1
        asking = still_asking(gaps, done)
    return (tuple(services), tuple(moments))


def joined_of(code, machine, others, *, most=MOST):
    """The bound with so many others beside, each of which may be served ahead at each miss."""
    return joined_ahead(code, machine, others, most)[BEGIN]


def joined_heights(code, machine, others, *, most=MOST):
    """The least heights of the joined bound."""
    return numbered_spots(joined_ahead(code, machine, others, most))


def shows_joined(code, machine, others, thing):
    """Whether it is heights of the joined bound, the least or others."""
    return begin_number(joined_ground(code, machine, others), thing, greatest) is not None


def is_work(thing):
    """Whether it is (code, worths, start)."""
    if not is_row(thing, 3, 3):
        return False
    code, worths, start = thing
    return is_code(code) and is_input(code, worths) and is_whole(start, 0, _LATEST)


def still_asking(gaps, done):
    """The works, rising, that have gaps left to do, and so have yet to ask."""
    return [at for at, own in enumerate(gaps) if done[at] < len(own)]


def first_behind(last, works):
    """The first of these rising works in the round behind the last one."""
    return ([at for at in works if at > last] + works)[0]


def joined_ground(code, machine, others):
    """The ground of a code on a machine with so many others beside; what is wrong is refused in its order."""
    ground_of(code, machine)
    if not is_whole(others, 0, _WORKS - 1):
        raise NoNumber(others)
    return Joined(code, machine, others)


def joined_ahead(code, machine, others, most):
    """For each spot that walks come to the most ticks that go on from it with so many others beside."""
    ground = joined_ground(code, machine, others)
    need_most(most)
    return ticks_ahead(steps_on(ground, most), greatest)


class Joined(Ground):
    """A code on a machine with so many others beside."""

    def __init__(self, code, machine, others):
        Ground.__init__(self, code, machine)
        self.others = others

    def step_by(self, spot, choice):
        """The step of a spot by a choice that it has, its misses as long as with all others served ahead."""
        fetch, wait, cell, work, to = super().step_by(spot, choice)
        # While it waits for the wire what is coming stands still, so all else is as it is by itself.
        return (fetch * (1 + self.others), wait, cell * (1 + self.others), work, to)
