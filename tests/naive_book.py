"""Books in the plainest way (b1 to b5, j1): all is worked out anew at each edit, by the naive typing."""

from rowtypes.errors import BadText
from rowtypes.expressions import is_name, nodes
from rowtypes.reading import parse_expression
from rowtypes.types import symbols, told
from rowtypes.writing import expression_text
from tests.naive import Clash, Naive


class Refused(Exception):
    pass


def uses(node, reach=()):
    """The names that nothing brings, each once."""
    if node[0] == "name":
        return [] if node[1] in reach else [node[1]]
    found = []
    parts = [part for part in node if isinstance(part, tuple)]
    for at, part in enumerate(parts):
        brings = node[0] in ("fun", "rec") or (node[0] == "let" and at == 1)
        more = tuple([word for word in node[1:] if isinstance(word, str)]) if brings else ()
        found += [name for name in uses(part, reach + more) if name not in found]
    return found


def brought(expression):
    return [word for node in nodes(expression) if node[0] in ("fun", "rec", "let")
            for word in node[1:] if isinstance(word, str)]


def types_of_ring(ring, book, known):
    """The types of the names of a ring, None if there are none."""
    naive = Naive(())
    reach = {name: (given, tuple(naive.free(given))) for name, given in known.items()}
    fixed = {name: naive.fresh() for name in ring}
    reach.update({name: (given, ()) for name, given in fixed.items()})
    try:
        for name in ring:
            naive.alike(naive.visit(book[name], reach), fixed[name])
        return {name: told((naive.full(fixed[name]),))[0] for name in ring}
    except Clash:
        return None


class NaiveBook:
    def __init__(self):
        self.pairs = []
        self.history = []
        self.lines = []
        self.types = {}
        self.order = []

    def leads(self, pairs):
        book = dict(pairs)
        found = {name: set(uses(book[name])) for name in book}
        for _ in book:
            found = {name: found[name].union(*[found[other] for other in found[name]]) for name in book}
        return found

    def rings(self, pairs):
        leads = self.leads(pairs)
        names = [name for name, _ in pairs]
        order = []
        while sum(len(ring) for ring in order) < len(names):
            done = [name for ring in order for name in ring]
            for name in names:
                ring = [name] + [other for other in names if other != name and name in leads[other]
                                 and other in leads[name]]
                ring = tuple(sorted(ring, key=names.index))
                outside = [other for part in ring for other in uses(dict(pairs)[part]) if other not in ring]
                if name not in done and all(other in done for other in outside):
                    order.append(ring)
                    break
        return order

    def judge(self, pairs):
        """The types and the order of a book with these definitions."""
        names = [name for name, _ in pairs]
        if len(names) > 6:
            raise Refused("too many definitions")
        for name, expression in pairs:
            for other in uses(expression):
                if other not in names:
                    raise Refused(f"{name} uses {other}")
            for other in brought(expression):
                if other in names:
                    raise Refused(f"{name} brings {other}")
        known = {}
        order = self.rings(pairs)
        for ring in order:
            types = types_of_ring(ring, dict(pairs), known)
            if types is None:
                raise Refused(f"no type of {ring[0]}")
            for name in ring:
                if symbols(types[name]) > 200:
                    raise Refused(f"{name} is too large")
            known.update(types)
        return known, order

    def change(self, pairs, line):
        types, order = self.judge(pairs)
        before = dict(self.pairs)
        changed = {name for name, expression in pairs if before.get(name) != expression}
        leads = self.leads(pairs)
        touched = [name for name, _ in pairs if name in changed or leads[name] & changed]
        self.pairs, self.types, self.order = pairs, types, order
        self.lines.append(line)
        return touched

    def define(self, texts):
        made = []
        for name, text in texts:
            if not is_name(name):
                raise Refused(f"no name {name}")
            try:
                expression = parse_expression(text)
            except BadText:
                raise Refused(f"no expression of {name}") from None
            if name in [other for other, _ in made]:
                raise Refused(f"{name} is defined twice")
            made.append((name, expression))
        pairs = [(name, dict(made).get(name, expression)) for name, expression in self.pairs]
        pairs += [pair for pair in made if pair[0] not in dict(pairs)]
        parts = [f"{name} = {expression_text(expression)}" for name, expression in made]
        ahead = self.pairs
        touched = self.change(pairs, "define " + " ; ".join(parts))
        self.history.append(ahead)
        return touched

    def remove(self, name):
        if name not in dict(self.pairs):
            raise Refused(f"unknown definition {name}")
        ahead = self.pairs
        touched = self.change([pair for pair in self.pairs if pair[0] != name], f"remove {name}")
        self.history.append(ahead)
        return touched

    def undo(self):
        if not self.history:
            raise Refused("no edit")
        return self.change(self.history.pop(), "undo")
