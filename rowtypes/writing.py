"""Writing expressions with as few round brackets as can be."""

from rowtypes.expressions import children, nodes

# The rules of the language, from the one that takes all expressions to the one that takes fewest.
EXPRESSION = 0
COMPARISON = 1
SUM = 2
APPLICATION = 3
SUFFIXED = 4
PRIMARY = 5


def expression_text(expression):
    """The written form of the expression."""
    # Behind a node in reverse order stand the texts of its children, the first one on top.
    texts = []
    for node in reversed(nodes(expression)):
        parts = [texts.pop() for _ in children(node)]
        texts.append(_written(node, _bracketed(node, parts)))
    return texts.pop()


def _level(node):
    """The rule of the language that makes such a node."""
    kind = node[0]
    if kind in ("fun", "rec", "let", "if"):
        return EXPRESSION
    if kind == "op":
        return SUM if node[1] in ("+", "-") else COMPARISON
    if kind == "call":
        return APPLICATION
    if kind in ("select", "drop"):
        return SUFFIXED
    return PRIMARY


def _places(node):
    """The rules by which the children of the node are read."""
    level = _level(node)
    if level == COMPARISON:
        return (SUM, SUM)
    if level == SUM:
        return (SUM, APPLICATION)
    if level == APPLICATION:
        return (APPLICATION, SUFFIXED)
    if level == SUFFIXED:
        return (SUFFIXED,)
    return tuple([EXPRESSION for _ in children(node)])


def _bracketed(node, texts):
    found = []
    for child, place, text in zip(children(node), _places(node), texts):
        found.append(text if _level(child) >= place else "(" + text + ")")
    return found


def _written(node, parts):
    kind = node[0]
    if kind == "extend":
        return _extension(node, parts)
    if kind == "fun":
        return f"fun {node[1]} => {parts[0]}"
    if kind == "rec":
        return f"rec {node[1]} {node[2]} => {parts[0]}"
    if kind == "call":
        return f"{parts[0]} {parts[1]}"
    if kind == "let":
        return f"let {node[1]} = {parts[0]} in {parts[1]}"
    if kind == "if":
        return f"if {parts[0]} then {parts[1]} else {parts[2]}"
    if kind == "op":
        return f"{parts[0]} {node[1]} {parts[1]}"
    if kind == "select":
        return parts[0] + "." + node[1]
    if kind == "drop":
        return parts[0] + "\\" + node[1]
    return _leaf(node)


def _leaf(node):
    if node[0] == "empty":
        return "{}"
    if node[0] == "truth":
        return "true" if node[1] else "false"
    return str(node[1])


def _extension(node, parts):
    field = node[1] + " = " + parts[0]
    rest = node[3][0]
    if rest == "empty":
        return "{" + field + "}"
    if rest == "extend":
        # The fields of the rest go on in the same braces.
        return "{" + field + ", " + parts[1][1:]
    return "{" + field + " | " + parts[1] + "}"
