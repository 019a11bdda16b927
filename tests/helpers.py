"""What several tests use: faults of texts, grammars that are followed by the book, expressions of all kinds."""

from rowtypes.errors import BadText
from rowtypes.reading import parse_expression
from rowtypes.typetext import parse_type, type_text
from rowtypes.typings import typed_in


def fault(read, text):
    """The pair (token, reason) with which the text is refused, None if it is read."""
    try:
        read(text)
    except BadText as why:
        return why.token, why.reason
    return None


class Grammar:
    """An Earley recognizer. A rule is a list of rows of symbols; what is no rule is a token."""

    def __init__(self, rules, start):
        self.rules = rules
        self.start = start
        self.empty = self.empty_rules()

    def empty_rules(self):
        found = set()
        while True:
            more = {rule for rule, rows in self.rules.items() for row in rows if all(part in found for part in row)}
            if more == found:
                return found
            found = more

    def closed(self, states, chart):
        waiting = list(states)
        states = set(waiting)
        while waiting:
            rule, row, at, start = waiting.pop()
            new = []
            if at == len(row):
                origin = states if start == len(chart) else chart[start]
                for item in list(origin):
                    if item[2] < len(item[1]) and item[1][item[2]] == rule:
                        new.append((item[0], item[1], item[2] + 1, item[3]))
            elif row[at] in self.rules:
                new = [(row[at], other, 0, len(chart)) for other in self.rules[row[at]]]
                if row[at] in self.empty:
                    new.append((rule, row, at + 1, start))
            for item in new:
                if item not in states:
                    states.add(item)
                    waiting.append(item)
        return states

    def verdict(self, tokens):
        """None if the tokens are a sentence, or else the pair (token, reason) of t3."""
        chart = [self.closed([(self.start, row, 0, 0) for row in self.rules[self.start]], [])]
        for place, token in enumerate(tokens):
            moved = [(rule, row, at + 1, start) for rule, row, at, start in chart[-1]
                     if at < len(row) and row[at] == token]
            if not moved:
                return place + 1, "unexpected token"
            chart.append(self.closed(moved, chart))
        if any(rule == self.start and at == len(row) and start == 0 for rule, row, at, start in chart[-1]):
            return None
        return len(tokens) + 1, "unexpected end"


def rules(text):
    """The rules of a grammar, a line each: rule: a row | a row | ..; @ stands for the sign |."""
    found = {}
    for line in text.strip().splitlines():
        rule, rows = line.split("::")
        found[rule.strip()] = [tuple(part.replace("@", "|") for part in row.split()) for row in rows.split("|")]
    return found


def changed(tokens, alphabet):
    """All rows of tokens that come from this one by one token less, another one or one more."""
    for at in range(len(tokens)):
        yield tokens[:at] + tokens[at + 1:]
        yield tokens[:at]
        for token in alphabet:
            yield tokens[:at] + [token] + tokens[at + 1:]
    for at in range(len(tokens) + 1):
        for token in alphabet:
            yield tokens[:at] + [token] + tokens[at:]


def type_texts(text, ignored=(), given=()):
    """The texts of the types of all nodes, None if there is no typing; given has pairs of texts."""
    names = tuple([(name, parse_type(general)) for name, general in given])
    found = typed_in(parse_expression(text), ignored, names)
    return None if found is None else [type_text(inner) for inner in found]


def cut(source, size, parts):
    """Numbers from 1 on, so many, that make the size together; source is a random.Random."""
    places = [0] + sorted(source.sample(range(1, size), parts - 1)) + [size]
    return [behind - ahead for ahead, behind in zip(places, places[1:])]


def some_expression(source, size, names, others="xyf"):
    """An expression with so many nodes, or one more, whose names are mostly these."""
    def inner(many, brought=()):
        return some_expression(source, many, names + list(brought), others)

    if size <= 1:
        if source.random() < 0.6 and names:
            return ("name", source.choice(names) if source.random() < 0.97 else source.choice(others))
        return source.choice([("number", source.randrange(3)), ("truth", source.random() < 0.5), ("empty",)])
    kinds = ["fun", "rec", "select", "drop"]
    kinds += ["call", "let", "let", "op", "extend", "extend"] if size > 2 else []
    kind = source.choice(kinds + (["if"] if size > 3 else []))
    one, other = source.choice(others), source.choice(others)
    if kind == "fun":
        return ("fun", one, inner(size - 1, one))
    if kind == "rec":
        return ("rec", one, other, inner(size - 1, one + other))
    if kind in ("select", "drop"):
        return (kind, source.choice("lm"), inner(size - 1))
    sizes = cut(source, size - 1, 3 if kind == "if" else 2)
    if kind == "let":
        return ("let", one, inner(sizes[0]), inner(sizes[1], one))
    if kind == "op":
        return ("op", source.choice(["+", "-", "<", "=="]), inner(sizes[0]), inner(sizes[1]))
    if kind == "extend":
        rest = ("empty",) if source.random() < 0.5 else inner(sizes[1])
        return ("extend", source.choice("lm"), inner(sizes[0]), rest)
    return (kind,) + tuple([inner(many) for many in sizes])


def some_lets(source, size, names):
    """An expression with at most so many nodes, most of them lets, functions, and names brought near by."""
    def inner(many, *brought):
        return some_lets(source, many, names + list(brought))

    if size < 3:
        near = names[-1 - min(source.choice([0, 0, 1, 1, 2, 4]), len(names) - 1):]
        return ("name", near[0]) if near and source.random() < 0.95 else ("empty",)
    kind = source.choices(["let", "fun", "call", "if", "extend", "select"], [8, 4, 5, 3 if size > 3 else 0, 3, 1])[0]
    new = source.choice("xyzw")
    one, other = cut(source, size - 1, 2)
    if kind == "let":
        one = min(one, source.randint(1, 9))
        return ("let", new, inner(one), inner(size - 1 - one, new))
    if kind == "fun":
        return ("fun", new, inner(size - 1, new))
    if kind == "select":
        return (source.choice(["select", "drop"]), source.choice("lm"), inner(size - 1))
    if kind == "if":
        one, other = cut(source, size - 2, 2)
        return ("if", ("truth", True), inner(one), inner(other))
    if kind == "extend":
        return ("extend", source.choice("lm"), inner(one), inner(other) if source.random() < 0.3 else ("empty",))
    return ("call", inner(one), inner(other))
