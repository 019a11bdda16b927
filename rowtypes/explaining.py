"""Why there is no typing: least sets of nodes that cannot be typed, and what would have to change."""

from rowtypes.expressions import nodes
from rowtypes.inference import Inference


def has_one(expression, ignored):
    """Whether there is a typing, however large its types are."""
    return Inference(expression, ignored, ()).solved()


def explanation(expression):
    """The explanation that is told, or None if there is a typing."""
    if has_one(expression, ()):
        return None
    needed = []
    left_out = []
    for number in range(len(nodes(expression))):
        if has_one(expression, tuple(left_out + [number])):
            needed.append(number)
        else:
            left_out.append(number)
    return tuple(needed)


def repairs(expression):
    """The list of all repairs of the least size, if that is at most 2."""
    needed = explanation(expression)
    if needed is None:
        return [()]
    single = [(number,) for number in needed if has_one(expression, (number,))]
    if single:
        return single
    return _double_repairs(expression, needed)


def _double_repairs(expression, needed):
    many = len(nodes(expression))
    found = []
    for first in range(many):
        for second in range(first + 1, many):
            # A repair has a node in common with each least explanation.
            if (first in needed or second in needed) and has_one(expression, (first, second)):
                found.append((first, second))
    return found
