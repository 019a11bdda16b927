"""Papers: types for all nodes of an expression, which are checked by the rules alone."""

from rowtypes.errors import BadPaper
from rowtypes.expressions import child_numbers, children, nodes
from rowtypes.instances import images
from rowtypes.types import normal, variables
from rowtypes.typetext import type_text
from rowtypes.typings import typed


def make_paper(expression):
    """The typing that is told, or None; raises TooLarge."""
    return typed(expression, ())


def check_paper(expression, paper):
    """Raises BadPaper with the number of the first node that is wrong, if the paper is not right."""
    parts = nodes(expression)
    if len(paper) != len(parts):
        raise BadPaper(None)
    child_rows = child_numbers(expression)
    # For each node its names in reach: pairs of a type and a dict of the variables that are free in it.
    reach = {0: {}}
    for number, node in enumerate(parts):
        names = reach[number]
        inner = [paper[child] for child in child_rows[number]]
        if not _holds(node, paper[number], inner, names):
            raise BadPaper(number)
        for child, more in zip(child_rows[number], _brought(node, paper[number], inner, names)):
            reach[child] = {**names, **more}


def _alike(one, other):
    # Compared as texts: tuples within tuples can stand too deep to be compared as they are.
    return type_text(normal(one)) == type_text(normal(other))


def _brought(node, given, inner, names):
    """The list of the dicts of names that the node brings in reach of each child."""
    kind = node[0]
    if kind == "fun":
        return [{node[1]: (given[1], {})}]
    if kind == "rec":
        # The parameter goes ahead of a function of the same name.
        return [{node[1]: (given, {}), node[2]: (given[1], {})}]
    if kind == "let":
        return [{}, {node[1]: (inner[0], _free(inner[0], names))}]
    return [{} for _ in children(node)]


def _free(bound, names):
    """A dict of the variables of a bound expression's type for which others can stand."""
    unfree = {}
    for given, free in names.values():
        for name in _all_variables(given):
            if name not in free:
                unfree[name] = True
    return {name: True for name in _all_variables(bound) if name not in unfree}


def _all_variables(given):
    kinds, rows = variables(given)
    return kinds + rows


def _holds(node, given, inner, names):
    """Whether the node's own rule holds with its type and those of its children."""
    kind = node[0]
    if kind == "name":
        return node[1] in names and _comes_of(given, names[node[1]])
    if kind in ("fun", "rec"):
        return given[0] == "fun" and _alike(given[2], inner[0])
    if kind == "let":
        return _alike(given, inner[1])
    if kind == "call":
        return inner[0][0] == "fun" and _alike(inner[0][1], inner[1]) and _alike(inner[0][2], given)
    if kind == "if":
        return inner[0] == ("truth",) and _alike(inner[1], given) and _alike(inner[2], given)
    if kind == "op":
        result = "number" if node[1] in ("+", "-") else "truth"
        return inner[0] == ("number",) and inner[1] == ("number",) and given == (result,)
    if kind in ("number", "truth"):
        return given == (kind,)
    return _record_holds(node, given, inner)


def _comes_of(given, scheme):
    """Whether a substitution for its free variables alone makes the scheme's type alike to the given one."""
    general, free = scheme
    found = images(given, general)
    if found is None:
        return False
    kinds, _ = variables(general)
    for name, image in found:
        itself = ("var", name) if name in kinds else ("record", (), name)
        if name not in free and image != itself:
            return False
    return True


def _record_holds(node, given, inner):
    kind = node[0]
    if kind == "empty":
        return given == ("record", (), None)
    record = inner[-1]
    if record[0] != "record":
        return False
    fields = record[1]
    if kind == "extend":
        return _alike(given, ("record", ((node[1], inner[0]),) + fields, record[2]))
    labels = [label for label, _ in fields]
    if node[1] not in labels:
        return False
    at = labels.index(node[1])
    if kind == "select":
        return _alike(given, fields[at][1])
    return _alike(given, ("record", fields[:at] + fields[at + 1:], record[2]))
