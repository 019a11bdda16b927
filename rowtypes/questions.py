"""Asking a book for the types of expressions, and running them in it."""

from rowtypes.errors import BadArgument
from rowtypes.expressions import all_brought, free_names
from rowtypes.reading import parse_expression
from rowtypes.running import run
from rowtypes.typings import typed_in


def read_question(text, names):
    """The expression, in which the names have their definitions; raises BadText and BadArgument."""
    expression = parse_expression(text)
    for used in free_names(expression):
        if used not in names:
            raise BadArgument("name")
    for brought in all_brought(expression):
        if brought in names:
            raise BadArgument("brings")
    return expression


def asked_type(text, known):
    """The type of the expression, None if there is none; known are the types of the names, a dict."""
    expression = read_question(text, known)
    types = typed_in(expression, (), tuple(known.items()))
    return None if types is None else types[0]


def asked_run(text, pairs, most):
    """What running the expression comes to with the definitions."""
    return run(read_question(text, [name for name, _ in pairs]), pairs, most)
