"""Running expressions step by step."""

from rowtypes.expressions import brought_names, child_numbers, children, nodes, with_children

MOST_NODES = 300
GREATEST_NUMBER = 999999

SIMPLE_VALUES = ("number", "truth", "fun", "rec", "empty")
RECORDS = ("empty", "extend")

# How many children, from the first one on, must be values ahead of a node's own step.
NEEDED = {"name": 0, "call": 2, "let": 1, "if": 1, "op": 2, "extend": 2, "select": 1, "drop": 1}


def is_value(expression):
    """Whether the expression is a value."""
    return _value_marks(nodes(expression), child_numbers(expression))[0]


def _value_marks(parts, inner):
    """For each node whether it is a value; inner has the numbers of its children."""
    marks = [part[0] in SIMPLE_VALUES for part in parts]
    for number in reversed(range(len(parts))):
        if parts[number][0] == "extend":
            field, record = inner[number]
            marks[number] = marks[field] and marks[record] and parts[record][0] in RECORDS
    return marks


def put_in(expression, name, given):
    """The expression with the given one for each such name that nothing within it brings."""
    # Behind a node in reverse order stand its children, the first one on top.
    built = []
    for node, covered in reversed(_covered_nodes(expression, name)):
        inner = [built.pop() for _ in children(node)]
        if node[0] == "name" and node[1] == name and not covered:
            built.append(given)
        else:
            built.append(with_children(node, inner))
    return built.pop()


def _covered_nodes(expression, name):
    """The list of (node, whether something around it brings the name), in order."""
    found = []
    waiting = [(expression, False)]
    while waiting:
        node, covered = waiting.pop()
        found.append((node, covered))
        inner = [(child, covered or name in names) for child, names in zip(children(node), brought_names(node))]
        waiting.extend(inner[::-1])
    return found


def step(expression, book):
    """What the expression comes to, or ("next", the expression behind one step)."""
    parts = nodes(expression)
    inner = child_numbers(expression)
    marks = _value_marks(parts, inner)
    if marks[0]:
        return ("value",)
    if len(parts) > MOST_NODES:
        return ("large",)
    way = _way_to_step(parts, inner, marks)
    found = _own_step(parts[way[-1]], book)
    if found[0] != "next":
        return found
    made = found[1]
    for at in reversed(range(len(way) - 1)):
        made = _with_child(parts[way[at]], inner[way[at]].index(way[at + 1]), made)
    return ("next", made)


def _way_to_step(parts, inner, marks):
    """The numbers of the node that makes the step and of all around it, the outermost ahead."""
    way = []
    waiting = [0]
    while waiting:
        way.append(waiting[0])
        needed = inner[way[-1]][:NEEDED[parts[way[-1]][0]]]
        waiting = [child for child in needed if not marks[child]]
    return way


def _with_child(node, at, child):
    inner = list(children(node))
    inner[at] = child
    return with_children(node, inner)


def _own_step(node, book):
    """What a node does when all that it needs are values."""
    kind = node[0]
    if kind == "name":
        return _definition(node[1], book)
    if kind == "call":
        return _called(node[1], node[2])
    if kind == "let":
        return ("next", put_in(node[3], node[1], node[2]))
    if kind == "if":
        return _chosen(node)
    if kind == "op":
        return _counted(node[1], node[2], node[3])
    if kind == "extend":
        # It would be a value if it extended a record.
        return ("stuck", "not a record")
    return _field_step(kind, node[1], node[2])


def _definition(name, book):
    for defined, expression in book:
        if defined == name:
            return ("next", expression)
    return ("stuck", "unbound name")


def _called(function, argument):
    if function[0] == "fun":
        return ("next", put_in(function[2], function[1], argument))
    if function[0] != "rec":
        return ("stuck", "not a function")
    body = function[3]
    if function[1] != function[2]:
        # The function goes in first: nothing of the argument may be taken for its name.
        body = put_in(body, function[1], function)
    return ("next", put_in(body, function[2], argument))


def _chosen(node):
    if node[1][0] != "truth":
        return ("stuck", "not a truth")
    return ("next", node[2] if node[1][1] else node[3])


def _counted(sign, one, other):
    if one[0] != "number" or other[0] != "number":
        return ("stuck", "not a number")
    if sign == "<":
        return ("next", ("truth", one[1] < other[1]))
    if sign == "==":
        return ("next", ("truth", one[1] == other[1]))
    result = one[1] + other[1] if sign == "+" else one[1] - other[1]
    if (sign == "+" and result > GREATEST_NUMBER) or (sign == "-" and result < 0):
        return ("overflow",)
    return ("next", ("number", result))


def _field_step(kind, label, record):
    if record[0] not in RECORDS:
        return ("stuck", "not a record")
    ahead = []
    rest = record
    while rest[0] == "extend" and rest[1] != label:
        ahead.append(rest)
        rest = rest[3]
    if rest[0] == "empty":
        return ("stuck", "no such field")
    if kind == "select":
        return ("next", rest[2])
    without = rest[3]
    for field in reversed(ahead):
        without = _with_child(field, 1, without)
    return ("next", without)


def run(expression, book, most):
    """What it comes to within so many steps, how many were made, and the expression behind them."""
    made = 0
    found = step(expression, book)
    while found[0] == "next" and made < most:
        expression = found[1]
        made += 1
        found = step(expression, book)
    came_to = "more" if found[0] == "next" else found[0]
    return (came_to, made, expression)
