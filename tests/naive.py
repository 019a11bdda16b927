"""Typings by the rules of p1 and p3 in the plainest way, on types as they are told.

It goes from the children to their parents and puts types in for variables at once;
so it shares nothing with what it is compared with but the told form.
"""

from rowtypes.types import told


class Clash(Exception):
    pass


class Naive:
    def __init__(self, ignored):
        self.ignored = ignored
        self.many = 0
        self.bound = {}
        self.types = []

    def fresh(self):
        self.many += 1
        return ("var", f"v{self.many}")

    def fresh_row(self):
        self.many += 1
        return f"w{self.many}"

    def full(self, given):
        if given[0] == "var" and given[1] in self.bound:
            return self.full(self.bound[given[1]])
        if given[0] == "fun":
            return ("fun", self.full(given[1]), self.full(given[2]))
        if given[0] == "record":
            fields = tuple((label, self.full(inner)) for label, inner in given[1])
            if given[2] in self.bound:
                rest = self.full(self.bound[given[2]])
                return ("record", fields + rest[1], rest[2])
            return ("record", fields, given[2])
        return given

    def free(self, given):
        if given[0] == "var":
            return {given[1]}
        if given[0] == "fun":
            return self.free(given[1]) | self.free(given[2])
        if given[0] == "record":
            ends = {given[2]} if given[2] is not None else set()
            return ends.union(*[self.free(inner) for _, inner in given[1]])
        return set()

    def bind(self, name, image):
        if image in (("var", name), ("record", (), name)):
            return
        if name in self.free(image):
            raise Clash
        self.bound[name] = image

    def alike(self, one, other):
        one, other = self.full(one), self.full(other)
        if one[0] == "var":
            self.bind(one[1], other)
        elif other[0] == "var":
            self.bind(other[1], one)
        elif one[0] != other[0]:
            raise Clash
        elif one[0] == "fun":
            self.alike(one[1], other[1])
            self.alike(one[2], other[2])
        elif one[0] == "record":
            self.rows(one, other)

    def rows(self, one, other):
        mine, others = list(one[1]), list(other[1])
        for field in one[1]:
            partner = next((item for item in others if item[0] == field[0]), None)
            if partner is not None:
                mine.remove(field)
                others.remove(partner)
                self.alike(field[1], partner[1])
        one, other = (self.full(("record", tuple(mine), one[2])), self.full(("record", tuple(others), other[2])))
        if one[1:] != (tuple(mine), one[2]) or len(one[1]) != len(mine) or len(other[1]) != len(others):
            # An end got fields in between.
            self.rows(one, other)
            return
        if mine and others:
            if one[2] is None or other[2] is None or one[2] == other[2]:
                raise Clash
            end = self.fresh_row()
            self.bind(one[2], ("record", other[1], end))
            self.alike(("record", one[1], end), ("record", (), other[2]))
        elif mine or (not others and one[2] is None):
            self.ends(other[2], one)
        else:
            self.ends(one[2], other)

    def ends(self, end, row):
        if end is None:
            if row[1] or row[2] is not None:
                raise Clash
        else:
            self.bind(end, row)

    def instance(self, scheme):
        general, names = scheme
        images = {}

        def copied(given):
            if given[0] == "var" and given[1] in names:
                return images.setdefault(given[1], self.fresh())
            if given[0] == "fun":
                return ("fun", copied(given[1]), copied(given[2]))
            if given[0] == "record":
                end = given[2]
                if end in names:
                    end = images.setdefault(end, self.fresh_row())
                return ("record", tuple((label, copied(inner)) for label, inner in given[1]), end)
            return given

        return copied(self.full(general))

    def visit(self, node, reach):
        number = len(self.types)
        self.types.append(None)
        try:
            given = self.rule(node, reach, number in self.ignored)
        except KeyError:
            raise Clash from None
        if number in self.ignored:
            given = self.fresh()
        self.types[number] = given
        return given

    def rule(self, node, reach, ignored):
        def want(one, other):
            if not ignored:
                self.alike(one, other)

        kind = node[0]
        if kind in ("number", "truth"):
            return (kind,)
        if kind == "name":
            return None if ignored else self.instance(reach[node[1]])
        if kind == "fun":
            argument = self.fresh()
            return ("fun", argument, self.visit(node[2], {**reach, node[1]: (argument, ())}))
        if kind == "rec":
            function = ("fun", self.fresh(), self.fresh())
            body = self.visit(node[3], {**reach, node[1]: (function, ()), node[2]: (function[1], ())})
            want(body, function[2])
            return function
        if kind == "let":
            general = self.full(self.visit(node[2], reach))
            fixed = set().union(*[self.free(self.full(inner)) - set(names) for inner, names in reach.values()])
            return self.visit(node[3], {**reach, node[1]: (general, tuple(self.free(general) - fixed))})
        return self.plain(node, [self.visit(child, reach) for child in node if isinstance(child, tuple)], want)

    def plain(self, node, inner, want):
        kind = node[0]
        if kind == "call":
            result = self.fresh()
            want(inner[0], ("fun", inner[1], result))
            return result
        if kind == "if":
            want(inner[0], ("truth",))
            want(inner[1], inner[2])
            return inner[1]
        if kind == "op":
            want(inner[0], ("number",))
            want(inner[1], ("number",))
            return ("number",) if node[1] in "+-" else ("truth",)
        if kind == "empty":
            return ("record", (), None)
        row = self.fresh_row()
        if kind == "extend":
            want(inner[1], ("record", (), row))
            return ("record", ((node[1], inner[0]),), row)
        field = self.fresh()
        want(inner[0], ("record", ((node[1], field),), row))
        return field if kind == "select" else ("record", (), row)


def naive_typing(expression, ignored, given=()):
    """What typed_in tells, however large the types are."""
    naive = Naive(ignored)
    reach = {}
    for name, general in given:
        reach[name] = (general, tuple(naive.free(general)))
    try:
        naive.visit(expression, reach)
        return told(tuple(naive.full(inner) for inner in naive.types))
    except Clash:
        return None
