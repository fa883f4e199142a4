"""Rows of spots that no step leads out of, and the choices that lead to a spot."""

from pacebond.kinds import are_rising
from pacebond.machine.moods import BEGIN, is_spot_form


def closed_steps(ground, things):
    """For each of these the steps of its choices, where they are rising spots, the first one of walks among them.

    None where they are not, or where a step leads to a spot that is none of them: only then can a walk leave them.
    """
    if not all([is_spot_form(ground.its_code, ground.its_machine, one) for one in things]):
        return None
    if not are_rising(things) or ground.begin not in things:
        return None
    steps = {spot: ground.steps_at(spot) for spot in things}
    # Behind end there is nothing more to be held to.
    led = [one[4] for spot in things for one in steps[spot] if one[4] is not None]
    return steps if all([spot in steps for spot in led]) else None


def choices_to(steps, goal):
    """Choices that lead from the first spot to this one, steps being those of all spots that walks come to."""
    came = {one[4]: (spot, at) for spot in steps for at, one in enumerate(steps[spot])}
    choices = []
    here = goal
    # No steps lead back to a spot, so going back from it ends, at the one spot to which none leads.
    while here != BEGIN:
        here, choice = came[here]
        choices.append(choice)
    return tuple(choices[::-1])
