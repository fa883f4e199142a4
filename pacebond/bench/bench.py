"""A bench: a code that is changed row by row, and judged anew just where something hangs on the change."""

from pacebond.bounds.heights import greatest, numbered_spots, ticks_ahead, ticks_beside
from pacebond.codes.codes import need_code, need_row
from pacebond.errors import NoDeed
from pacebond.machine.moods import BEGIN
from pacebond.machine.steps import Ground
from pacebond.machine.walks import MOST, steps_of, steps_on
from pacebond.passes.rows import with_rows


class Bench:
    """A code on a machine, with its least heights."""

    def __init__(self, code, machine, *, most=MOST):
        steps = steps_of(code, machine, most)
        self._machine = machine
        self._most = most
        # The last one is what stands; those ahead of it are what changes can be taken back to.
        self._states = [State(code, steps, ticks_ahead(steps, greatest), len(steps))]

    def change(self, row, new):
        """Puts a row in the place of another one; told is how many spots are judged anew."""
        state = self.state()
        need_row(state.its_code, row)
        rows = state.its_code[4]
        code = with_rows(state.its_code, rows[:row] + (new,) + rows[row + 1:])
        need_code(code)
        changed = changed_state(state, code, self._machine, row, self._most)
        self._states.append(changed)
        return changed.anew

    def back(self):
        """Undoes the last change that stands."""
        if len(self._states) == 1:
            raise NoDeed("no change stands")
        self._states.pop()

    def state(self):
        """What stands."""
        return self._states[-1]

    def code(self):
        """The code."""
        return self.state().its_code

    def machine(self):
        """The machine."""
        return self._machine

    def bound(self):
        """The bound."""
        return self.state().ticks[BEGIN]

    def heights(self):
        """The least heights."""
        return numbered_spots(self.state().ticks)

    def judged(self):
        """How many spots the last change that stands judged anew, all where there is none."""
        return self.state().anew

    def shape(self):
        """All that benches must have in common to be equal."""
        return (self.code(), self._machine, self._most)

    def __eq__(self, other):
        """Whether it is a bench of equal code, machine and most, whatever was changed on the way."""
        return isinstance(other, Bench) and self.shape() == other.shape()

    def __len__(self):
        """How many spots walks come to."""
        return len(self.state().steps)

    def __str__(self):
        """The bound in words."""
        return f"bound {self.bound()}"

    def __repr__(self):
        """How many rows and spots there are."""
        return f"Bench({len(self.code()[4])} rows, {len(self)} spots)"


class State:
    """What stands at a bench: a code, its steps and the most ticks from each spot, how many spots were judged anew."""

    def __init__(self, code, steps, ticks, anew):
        self.its_code = code
        self.steps = steps
        self.ticks = ticks
        self.anew = anew


class Partly(Ground):
    """A code on a machine, the steps of some spots of which are known already."""

    def __init__(self, code, machine, kept):
        Ground.__init__(self, code, machine)
        self.kept = kept

    def steps_at(self, spot):
        """The steps of all choices of a spot, in order."""
        return self.kept[spot] if spot in self.kept else super().steps_at(spot)


def changed_state(state, code, machine, row, most):
    """What stands behind a change of this row, by which a state's code becomes another one."""
    lost = spots_to_row(state.steps, row)
    kept = {spot: state.steps[spot] for spot in state.steps if spot not in lost}
    steps = steps_on(Partly(code, machine, kept), most)
    # A kept spot's steps lead to kept ones alone, so the ticks from it hang on nothing that was changed.
    known = {spot: state.ticks[spot] for spot in kept if spot in steps}
    anew = len(steps) - len(known)
    known[None] = 0
    return State(code, steps, ticks_beside(known, steps, greatest), anew)


def spots_to_row(steps, row):
    """{spot: True} of those of these spots that are of the row, or from which walks come to it."""
    ahead = {}
    for spot in steps:
        for one in steps[spot]:
            ahead.setdefault(one[4], []).append(spot)
    found = {}
    left = [spot for spot in steps if spot[0] == row]
    while left:
        here = left.pop()
        if here not in found:
            found[here] = True
            left.extend(ahead.get(here, []))
    return found
