"""What an edit of a book says, what is refused of it, and its line in the journal."""

from rowtypes.errors import BadEdit, BadText
from rowtypes.expressions import all_brought, free_names, is_name
from rowtypes.reading import parse_expression
from rowtypes.rings import types_together
from rowtypes.writing import expression_text

MOST_DEFINITIONS = 6


def read_definitions(pairs):
    """The list of the pairs (name, expression) for pairs (name, text); raises BadEdit."""
    found = {}
    for name, text in pairs:
        if not is_name(name):
            raise BadEdit(f"no name {name}")
        expression = _read(name, text)
        if name in found:
            raise BadEdit(f"{name} is defined twice")
        found[name] = expression
    return list(found.items())


def _read(name, text):
    try:
        return parse_expression(text)
    except BadText:
        raise BadEdit(f"no expression of {name}") from None


def define_line(pairs):
    """The line of a journal for these definitions, without its newline."""
    parts = [f"{name} = {expression_text(expression)}" for name, expression in pairs]
    return "define " + " ; ".join(parts)


def with_definitions(ahead, pairs):
    """The definitions ahead, with others in their places or behind them."""
    anew = dict(pairs)
    known = [name for name, _ in ahead]
    kept = [(name, anew.get(name, expression)) for name, expression in ahead]
    return tuple(kept + [pair for pair in pairs if pair[0] not in known])


def refuse_definitions(pairs):
    """Raises BadEdit if a book cannot have these definitions, whatever their types."""
    if len(pairs) > MOST_DEFINITIONS:
        raise BadEdit("too many definitions")
    names = [name for name, _ in pairs]
    for name, expression in pairs:
        for used in free_names(expression):
            if used not in names:
                raise BadEdit(f"{name} uses {used}")
        for brought in all_brought(expression):
            if brought in names:
                raise BadEdit(f"{name} brings {brought}")


def ring_types(pairs, known):
    """A dict from a ring's names to their types; raises BadEdit. Known are the types ahead of it, a dict."""
    types = types_together(pairs, tuple(known.items()))
    if types is None:
        raise BadEdit("no type of " + pairs[0][0])
    found = {}
    for (name, _), given in zip(pairs, types):
        if given is None:
            raise BadEdit(f"{name} is too large")
        found[name] = given
    return found
