"""The shapes of types: normal and told form, symbols, variables and substitutions."""

from rowtypes.tokens import LETTERS

MOST_SYMBOLS = 200


def type_parts(given):
    """The tuple of the types that stand directly in this one."""
    if given[0] == "fun":
        return given[1:]
    if given[0] == "record":
        return tuple([inner for _, inner in given[1]])
    return ()


def with_parts(given, parts):
    """The type with other types in the place of its parts."""
    if given[0] == "fun":
        return ("fun", parts[0], parts[1])
    if given[0] == "record":
        fields = [(label, inner) for (label, _), inner in zip(given[1], parts)]
        return ("record", tuple(fields), given[2])
    return given


def all_types(given):
    """The list of all types within this one, itself included, each ahead of its parts."""
    found = []
    waiting = [given]
    while waiting:
        part = waiting.pop()
        found.append(part)
        waiting.extend(type_parts(part)[::-1])
    return found


def occurrences(given):
    """The list of (variable, whether it ends a row), in the order of the written form."""
    found = []
    waiting = [given]
    while waiting:
        part = waiting.pop()
        if part[0] == "end":
            found.append((part[1], True))
        elif part[0] == "var":
            found.append((part[1], False))
        elif part[0] == "record" and part[2] is not None:
            # The end of a row is written behind all of its fields.
            waiting.append(("end", part[2]))
        waiting.extend(type_parts(part)[::-1])
    return found


def variables(given):
    """The pair (list of type variables, list of row variables), each once, as they occur."""
    kinds = {}
    rows = {}
    for name, ends_row in occurrences(given):
        if ends_row:
            rows[name] = True
        else:
            kinds[name] = True
    return list(kinds), list(rows)


def symbols(given):
    """How many symbols the type has."""
    many = 0
    for part in all_types(given):
        many += 1
        if part[0] == "record":
            many += len(part[1])
            if part[2] is not None:
                many += 1
    return many


def normal(given):
    """The normal form: the fields of each row in the order of their labels."""
    # Behind a type in reverse order stand its parts, the first one on top.
    built = []
    for part in reversed(all_types(given)):
        inner = [built.pop() for _ in type_parts(part)]
        built.append(_sorted_fields(with_parts(part, inner)))
    return built.pop()


def _sorted_fields(given):
    if given[0] != "record":
        return given
    fields = sorted(given[1], key=lambda field: field[0])
    return ("record", tuple(fields), given[2])


def substitute(given, images):
    """The type with the images, a dict, put in for its variables, all at once."""
    built = []
    for part in reversed(all_types(given)):
        inner = [built.pop() for _ in type_parts(part)]
        built.append(_put_image(with_parts(part, inner), images))
    return built.pop()


def _put_image(given, images):
    if given[0] == "var":
        return images.get(given[1], given)
    if given[0] == "record" and given[2] in images:
        row = images[given[2]]
        return ("record", given[1] + row[1], row[2])
    return given


def told(types):
    """The told form of a tuple of types: normal forms with new names, together."""
    normals = [normal(given) for given in types]
    images = {}
    for given in normals:
        for name, ends_row in occurrences(given):
            if name not in images:
                fresh = _variable_name(len(images))
                images[name] = ("record", (), fresh) if ends_row else ("var", fresh)
    return tuple([substitute(given, images) for given in normals])


def _variable_name(number):
    """a, b, .., z, aa, ab, .., from number 0 on."""
    name = ""
    left = number + 1
    while left > 0:
        left, letter = divmod(left - 1, len(LETTERS))
        name = LETTERS[letter] + name
    return name
