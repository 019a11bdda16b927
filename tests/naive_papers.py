"""The rules of papers (a1, a2) in another way: on types with sorted fields, all wrong nodes at once."""


def flat(given):
    """The type with the fields of its rows as a dict from labels to the lists of their types."""
    if given[0] == "fun":
        return ("fun", flat(given[1]), flat(given[2]))
    if given[0] == "record":
        fields = {}
        for label, inner in given[1]:
            fields.setdefault(label, []).append(flat(inner))
        return ("record", fields, given[2])
    return given


def names_in(given):
    if given[0] == "var":
        return {given[1]}
    if given[0] == "fun":
        return names_in(given[1]) | names_in(given[2])
    if given[0] == "record":
        inner = [names_in(one) for row in given[1].values() for one in row]
        return set().union({given[2]} - {None}, *inner)
    return set()


def comes(given, general, free, images):
    """Whether the type comes of the general one by images of free variables, which are noted."""
    if general[0] == "var":
        if general[1] not in free:
            return given == general
        return images.setdefault(general[1], given) == given
    if given[0] != general[0]:
        return False
    if general[0] == "fun":
        return comes(given[1], general[1], free, images) and comes(given[2], general[2], free, images)
    if general[0] != "record":
        return True
    rest = {}
    for label in set(given[1]) | set(general[1]):
        mine, others = given[1].get(label, []), general[1].get(label, [])
        if len(mine) < len(others):
            return False
        if not all(comes(one, other, free, images) for one, other in zip(mine, others)):
            return False
        if mine[len(others):]:
            rest[label] = mine[len(others):]
    if general[2] in free:
        return images.setdefault(general[2], ("record", rest, given[2])) == ("record", rest, given[2])
    return not rest and given[2] == general[2]


def first_wrong(expression, paper):
    """The number of the first wrong node, None if there is none."""
    wrong = []
    types = [flat(given) for given in paper]
    behind = visit(expression, 0, {}, types, wrong)
    assert behind == len(types)
    return min(wrong) if wrong else None


def visit(node, number, reach, types, wrong):
    """Notes all wrong nodes from this one on; tells the number behind its nodes."""
    kind, own = node[0], types[number]
    own_argument = own[1] if own[0] == "fun" else ("nothing",)
    inner = []
    at = number + 1
    for part in [part for part in node if isinstance(part, tuple)]:
        brought = dict(reach)
        if kind in ("fun", "rec"):
            if kind == "rec":
                brought[node[1]] = (own, set())
            brought[node[-2]] = (own_argument, set())
        if kind == "let" and inner:
            unfree = set().union(*[names_in(given) - free for given, free in reach.values()])
            brought[node[1]] = (inner[0], names_in(inner[0]) - unfree)
        inner.append(types[at])
        at = visit(part, at, brought, types, wrong)
    if not right(node, own, inner, reach):
        wrong.append(number)
    return at


def with_field(label, given, record):
    fields = dict(record[1])
    fields[label] = [given] + fields.get(label, [])
    return ("record", fields, record[2])


def right(node, own, inner, reach):
    kind = node[0]
    if kind == "name":
        return node[1] in reach and comes(own, reach[node[1]][0], reach[node[1]][1], {})
    if kind in ("fun", "rec"):
        return own[0] == "fun" and own[2] == inner[0]
    if kind == "call":
        return inner[0] == ("fun", inner[1], own)
    if kind == "let":
        return own == inner[1]
    if kind == "if":
        return inner == [("truth",), own, own]
    if kind == "op":
        return inner == [("number",)] * 2 and own == (("number",) if node[1] in "+-" else ("truth",))
    if kind == "empty":
        return own == ("record", {}, None)
    if kind == "extend":
        return inner[1][0] == "record" and own == with_field(node[1], inner[0], inner[1])
    if kind == "drop":
        # It is right if some field ahead of its row makes the row of the record.
        if inner[0][0] != "record" or own[0] != "record" or node[1] not in inner[0][1]:
            return False
        return with_field(node[1], inner[0][1][node[1]][0], own) == inner[0]
    if kind == "select":
        return inner[0][0] == "record" and inner[0][1].get(node[1], [None])[0] == own
    return own == (kind,)
