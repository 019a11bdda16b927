"""Reading expressions from their texts."""

from rowtypes.errors import BadText
from rowtypes.expressions import is_name, nodes
from rowtypes.tokens import Tokens

SIGNS = ("=>", "==", "=", "<", "+", "-", ".", "\\", "(", ")", "{", "}", ",", "|")
MOST_NODES = 24


def parse_expression(text):
    """The expression that the text is; raises BadText."""
    tokens = Tokens(text, SIGNS)
    expression = _expression(tokens)
    tokens.finish()
    if len(nodes(expression)) > MOST_NODES:
        raise BadText(0, "too many nodes")
    return expression


def _name(tokens):
    if not is_name(tokens.ahead()):
        tokens.refuse()
    return tokens.take()


def _expression(tokens):
    if tokens.skip("fun"):
        return _fun(tokens)
    if tokens.skip("rec"):
        return _rec(tokens)
    if tokens.skip("let"):
        return _let(tokens)
    if tokens.skip("if"):
        return _choice(tokens)
    return _comparison(tokens)


def _fun(tokens):
    name = _name(tokens)
    tokens.expect("=>")
    return ("fun", name, _expression(tokens))


def _rec(tokens):
    function = _name(tokens)
    name = _name(tokens)
    tokens.expect("=>")
    return ("rec", function, name, _expression(tokens))


def _let(tokens):
    name = _name(tokens)
    tokens.expect("=")
    bound = _expression(tokens)
    tokens.expect("in")
    return ("let", name, bound, _expression(tokens))


def _choice(tokens):
    condition = _expression(tokens)
    tokens.expect("then")
    chosen = _expression(tokens)
    tokens.expect("else")
    return ("if", condition, chosen, _expression(tokens))


def _comparison(tokens):
    left = _sum(tokens)
    if tokens.ahead() not in ("<", "=="):
        return left
    sign = tokens.take()
    return ("op", sign, left, _sum(tokens))


def _sum(tokens):
    left = _application(tokens)
    while tokens.ahead() in ("+", "-"):
        sign = tokens.take()
        left = ("op", sign, left, _application(tokens))
    return left


def _application(tokens):
    function = _suffixed(tokens)
    while _begins_primary(tokens.ahead()):
        function = ("call", function, _suffixed(tokens))
    return function


def _suffixed(tokens):
    record = _primary(tokens)
    while tokens.ahead() in (".", "\\"):
        kind = "select" if tokens.take() == "." else "drop"
        record = (kind, _name(tokens), record)
    return record


def _begins_primary(token):
    return token in ("true", "false", "(", "{") or token.isdigit() or is_name(token)


def _primary(tokens):
    if not _begins_primary(tokens.ahead()):
        tokens.refuse()
    token = tokens.take()
    if token == "(":
        expression = _expression(tokens)
        tokens.expect(")")
        return expression
    if token == "{":
        return _braces(tokens)
    if token.isdigit():
        return ("number", int(token))
    if token in ("true", "false"):
        return ("truth", token == "true")
    return ("name", token)


def _braces(tokens):
    if tokens.skip("}"):
        return ("empty",)
    fields = [_field(tokens)]
    while tokens.skip(","):
        fields.append(_field(tokens))
    record = _expression(tokens) if tokens.skip("|") else ("empty",)
    tokens.expect("}")
    for label, value in reversed(fields):
        record = ("extend", label, value, record)
    return record


def _field(tokens):
    label = _name(tokens)
    tokens.expect("=")
    return label, _expression(tokens)
