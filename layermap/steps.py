"""Tells lists and tuples of steps, each of them a deed of somebody or at some key, from what is none."""

from layermap.errors import BadSteps
from layermap.kinds import is_deed, is_integer


def check_steps(steps, is_step, most=None):
    """Refuses what is no list or tuple, or has too many items, or an item that is no such step."""
    if not isinstance(steps, (list, tuple)) or (most is not None and len(steps) > most):
        raise BadSteps(None)
    for index, step in enumerate(steps):
        if not is_step(step):
            raise BadSteps(index)


def is_key_step(thing):
    """Whether this is a pair of a key and a deed."""
    return isinstance(thing, tuple) and len(thing) == 2 and is_integer(thing[0]) and is_deed(thing[1])


def is_hand_step(thing):
    """Whether this is a pair of 0 or 1, for a hand, and a deed that a hand can do."""
    return is_key_step(thing) and thing[0] in (0, 1) and thing[1][0] != "beneath"
