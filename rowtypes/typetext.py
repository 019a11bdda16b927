"""Reading types from their texts, and writing them."""

from rowtypes.errors import BadText, TooLarge
from rowtypes.tokens import Tokens
from rowtypes.types import MOST_SYMBOLS, all_types, occurrences, symbols, type_parts, variables

SIGNS = ("->", "(", ")", "{", "}", ":", ",", "|")
BASES = ("number", "truth")


def parse_type(text):
    """The type that the text is, its fields as they are written; raises BadText and TooLarge."""
    tokens = Tokens(text, SIGNS)
    given = _arrows(tokens)
    tokens.finish()
    _refuse_mixed(given)
    if symbols(given) > MOST_SYMBOLS:
        raise TooLarge()
    return given


def _refuse_mixed(given):
    kinds, rows = variables(given)
    for name, _ in occurrences(given):
        if name in kinds and name in rows:
            raise BadText(0, name + " is used as a type and as a row")


def _arrows(tokens):
    atoms = [_atom(tokens)]
    while tokens.skip("->"):
        atoms.append(_atom(tokens))
    given = atoms.pop()
    while atoms:
        given = ("fun", atoms.pop(), given)
    return given


def _atom(tokens):
    if tokens.skip("("):
        given = _arrows(tokens)
        tokens.expect(")")
        return given
    if tokens.skip("{"):
        return _braces(tokens)
    name = _word(tokens)
    if name in BASES:
        return (name,)
    return ("var", name)


def _word(tokens):
    # The words of the expressions are no words here, so each run of letters will do.
    if not tokens.ahead().isalpha():
        tokens.refuse()
    return tokens.take()


def _braces(tokens):
    fields = []
    if tokens.ahead() not in ("|", "}"):
        fields.append(_field(tokens))
        while tokens.skip(","):
            fields.append(_field(tokens))
    end = _row_end(tokens) if tokens.skip("|") else None
    tokens.expect("}")
    return ("record", tuple(fields), end)


def _field(tokens):
    label = _word(tokens)
    tokens.expect(":")
    return (label, _arrows(tokens))


def _row_end(tokens):
    if tokens.ahead() in BASES:
        tokens.refuse()
    return _word(tokens)


def type_text(given):
    """The written form of the type, its fields and variables as they are."""
    # Behind a type in reverse order stand the texts of its parts, the first one on top.
    texts = []
    for part in reversed(all_types(given)):
        inner = [texts.pop() for _ in type_parts(part)]
        texts.append(_written(part, inner))
    return texts.pop()


def _written(given, texts):
    if given[0] == "fun":
        argument = "(" + texts[0] + ")" if given[1][0] == "fun" else texts[0]
        return argument + " -> " + texts[1]
    if given[0] == "record":
        return _record_text(given, texts)
    if given[0] == "var":
        return given[1]
    return given[0]


def _record_text(given, texts):
    written = [label + ": " + text for (label, _), text in zip(given[1], texts)]
    fields = ", ".join(written)
    if given[2] is None:
        return "{" + fields + "}"
    if fields == "":
        return "{| " + given[2] + "}"
    return "{" + fields + " | " + given[2] + "}"
