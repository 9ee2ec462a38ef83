"""The steps in which an expression is computed, and the expression made of them."""

from watchfloor.errors import BadSteps
from watchfloor.expressions import parts_of

PARTS_TAKEN = {"binary": 2, "aggregate": 1}


def steps_of(expression):
    """Return the list of the steps of an expression."""
    steps = []
    for part in parts_of(expression):
        steps.extend(steps_of(part))
    steps.append(own_step(expression))
    return steps


def own_step(expression):
    """Return the step of an expression that follows the steps of its parts."""
    many = PARTS_TAKEN.get(expression[0], 0)
    return expression[:len(expression) - many]


def from_steps(steps):
    """Return the expression with these steps; raise BadSteps if there is none."""
    aside = []
    for place, step in enumerate(steps):
        first = len(aside) - PARTS_TAKEN.get(step[0], 0)
        if first < 0:
            raise BadSteps(place)
        aside[first:] = [step + tuple(aside[first:])]
    if len(aside) != 1:
        raise BadSteps(len(steps))
    return aside[0]
