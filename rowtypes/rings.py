"""Definitions that use one another: which are typed together, in which order, and their types."""

from rowtypes.expressions import free_names
from rowtypes.inference import Inference
from rowtypes.types import told


def typing_order(pairs):
    """The list of the tuples of names that are typed together, in the order in which they are typed."""
    uses = _uses(pairs)
    waiting = _groups(uses)
    found = []
    done = {}
    while waiting:
        ring = [group for group in waiting if _is_ready(group, uses, done)][0]
        waiting = [group for group in waiting if group != ring]
        found.append(ring)
        for name in ring:
            done[name] = True
    return found


def touched(ahead, pairs):
    """The list of the names that are touched when the definitions ahead give way to these."""
    before = dict(ahead)
    changed = [name for name, expression in pairs if name not in before or before[name] != expression]
    reached = _reached(_uses(pairs))
    return [name for name, _ in pairs if name in changed or any([other in reached[name] for other in changed])]


def _uses(pairs):
    return {name: free_names(expression) for name, expression in pairs}


def _reached(uses):
    """A dict from all names to dicts of the names that they lead to by uses."""
    found = {}
    for name in uses:
        found[name] = {}
        waiting = list(uses[name])
        while waiting:
            used = waiting.pop()
            if used not in found[name]:
                found[name][used] = True
                waiting.extend(uses[used])
    return found


def _groups(uses):
    """The list of the tuples of names that lead to one another, or stand alone, by their first names."""
    reached = _reached(uses)
    found = []
    grouped = {}
    for name in uses:
        if name not in grouped:
            ring = [other for other in uses if other == name or (other in reached[name] and name in reached[other])]
            found.append(tuple(ring))
            for other in ring:
                grouped[other] = True
    return found


def _is_ready(group, uses, done):
    """Whether all that the group uses outside of itself is typed."""
    return all([used in group or used in done for name in group for used in uses[name]])


def types_together(pairs, given):
    """The list of the types of definitions that are typed together, None if they have none.

    Each is told by itself, None stands for one that is too large. Given are the names
    that the definitions use besides their own, with their types.
    """
    inference = Inference(_joined(pairs), (), given)
    if not inference.solved():
        return None
    types = inference.types()
    found = []
    # The node behind the functions is the record, whose fields have the types.
    record = len(pairs)
    for _ in pairs:
        field, rest = inference.inner[record]
        found.append(None if types[field] is None else told((types[field],))[0])
        record = rest
    return found


def _joined(pairs):
    """An expression in which each name has one type, that of its definition, which a field of a record has."""
    joined = ("empty",)
    for name, expression in reversed(pairs):
        alike = ("if", ("truth", True), ("name", name), expression)
        joined = ("extend", name, alike, joined)
    for name, _ in reversed(pairs):
        joined = ("fun", name, joined)
    return joined
