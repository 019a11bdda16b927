"""Which types come from others by substitutions."""

from rowtypes.errors import TooLarge
from rowtypes.graph import Graph
from rowtypes.types import normal, told
from rowtypes.typetext import type_text
from rowtypes.unifying import Entry


def images(given, general):
    """The pairs (variable, image) that make the general type alike to the given one, or None."""
    found = {}
    waiting = [(normal(given), normal(general))]
    while waiting:
        one, other = waiting.pop()
        follows = _matched(one, other, found)
        if follows is None:
            return None
        waiting.extend(follows)
    return tuple(sorted(list(found.items()), key=lambda pair: pair[0]))


def _matched(given, general, found):
    """The pairs of types that must be matched behind this pair, or None."""
    if general[0] == "var":
        return [] if _agrees(general[1], given, found) else None
    if given[0] != general[0]:
        return None
    if given[0] == "fun":
        return [(given[1], general[1]), (given[2], general[2])]
    if given[0] == "record":
        return _matched_rows(given, general, found)
    return []


def _agrees(name, image, found):
    """Whether the variable can have the image; it has it then."""
    # Compared as texts: tuples within tuples can stand too deep to be compared as they are.
    return type_text(found.setdefault(name, image)) == type_text(image)


def _matched_rows(given, general, found):
    fields = list(given[1])
    pairs = []
    for label, inner in general[1]:
        at = _place_of(label, fields)
        if at is None:
            return None
        _, image = fields.pop(at)
        pairs.append((image, inner))
    # What is left belongs to the end of the general row.
    if general[2] is None:
        return pairs if not fields and given[2] is None else None
    rest = ("record", tuple(fields), given[2])
    return pairs if _agrees(general[2], rest, found) else None


def _place_of(label, fields):
    """The place of the first field with the label, or None."""
    for at, field in enumerate(fields):
        if field[0] == label:
            return at
    return None


def is_instance(given, general):
    """Whether some substitution makes the general type alike to the given one."""
    return images(given, general) is not None


def mean_same(one, other):
    """Whether each type is an instance of the other one."""
    return is_instance(one, other) and is_instance(other, one)


def meeting(one, other):
    """The most general instance of both types, or None; raises TooLarge."""
    graph = Graph()
    # Two entries: the variables of the two types have nothing to do with one another.
    place = Entry(graph).enter(one)
    if not graph.unite(place, Entry(graph).enter(other)):
        return None
    types = graph.types()
    if types is None:
        return None
    found = types[graph.root(place)]
    if found is None:
        raise TooLarge()
    return told((found,))[0]
