"""Gaps: a run's own ticks between its misses."""

from pacebond.codes.runs import need_input
from pacebond.machine.walks import ground_of, run_steps


def gaps_of(code, machine, worths):
    """The run's own ticks ahead of its first miss, between each two, and behind the last one."""
    ground = ground_of(code, machine)
    need_input(code, worths)
    return tuple(gaps_on(ground, worths))


def gaps_on(ground, worths):
    """As gaps_of, of an input."""
    gaps = [0]
    for fetch, wait, cell, work, _ in run_steps(ground, worths):
        if fetch != 0:
            gaps.append(0)
        gaps[-1] += wait
        if cell != 0:
            gaps.append(0)
        gaps[-1] += work
    return gaps
