"""Finding the types of the nodes of an expression, some of which can be ignored."""

from rowtypes.expressions import child_numbers, nodes
from rowtypes.graph import Graph
from rowtypes.schemes import fixed_scheme, general_scheme, let_scheme
from rowtypes.unifying import Entry


class Inference:
    """Places for the types of all nodes, which are made alike as the rules of the nodes ask."""

    def __init__(self, expression, ignored, given):
        self.graph = Graph()
        self.all_nodes = nodes(expression)
        self.inner = child_numbers(expression)
        self.ignored = {number: True for number in ignored}
        self.places = [self._variable() for _ in self.all_nodes]
        # The names in reach of each node, with their schemes.
        self.reach = {0: self._given_names(given)}
        # For the body of a let: its name and its bound expression.
        self.bound = {}

    def _variable(self):
        return self.graph.new_place(("var",))

    def _given_names(self, given):
        names = {}
        for name, general in given:
            # Each type has variables of its own.
            names[name] = general_scheme(self.graph, Entry(self.graph).enter(general))
        return names

    def solved(self):
        """Whether there is a typing; it stands in the graph then."""
        for number in range(len(self.all_nodes)):
            self._bring_bound(number)
            pairs = self._rule(number)
            if number not in self.ignored and not self._united(pairs):
                return False
        return self.graph.ordered() is not None

    def types(self):
        """The list of the types of all nodes, None for one that is too large."""
        types = self.graph.types()
        return [types[self.graph.root(place)] for place in self.places]

    def _united(self, pairs):
        if pairs is None:
            return False
        for one, other in pairs:
            if not self.graph.unite(one, other):
                return False
        return True

    def _bring_bound(self, number):
        # All nodes of the bound expression stand ahead of the body, so its type is known here.
        if number in self.bound:
            name, place = self.bound[number]
            names = self.reach[number]
            scheme = let_scheme(self.graph, place, list(names.values()))
            self.reach[number] = {**names, name: scheme}

    def _rule(self, number):
        """The pairs of places that the rule of a node makes alike; None if it cannot hold."""
        node = self.all_nodes[number]
        names = self.reach[number]
        place = self.places[number]
        inner = [self.places[child] for child in self.inner[number]]
        for child in self.inner[number]:
            self.reach[child] = names
        kind = node[0]
        if kind == "name":
            return [(place, names[node[1]].instance())] if node[1] in names else None
        if kind in ("fun", "rec"):
            return self._function(number, names, place, inner[0])
        if kind == "let":
            self.bound[self.inner[number][1]] = (node[1], inner[0])
            return [(place, inner[1])]
        if kind in ("empty", "extend", "select", "drop"):
            return self._record_rule(node, place, inner)
        return self._plain_rule(node, place, inner)

    def _function(self, number, names, place, body):
        node = self.all_nodes[number]
        argument = self._variable()
        result = self._variable()
        function = self.graph.new_place(("fun", argument, result))
        brought = {**names}
        if node[0] == "rec":
            brought[node[1]] = fixed_scheme(self.graph, function)
        # The parameter goes ahead of a function of the same name.
        brought[node[-2]] = fixed_scheme(self.graph, argument)
        self.reach[self.inner[number][0]] = brought
        return [(place, function), (result, body)]

    def _plain_rule(self, node, place, inner):
        kind = node[0]
        if kind == "call":
            return [(inner[0], self.graph.new_place(("fun", inner[1], place)))]
        if kind == "if":
            return [(inner[0], self._base("truth")), (inner[1], place), (inner[2], place)]
        if kind == "op":
            result = "number" if node[1] in ("+", "-") else "truth"
            return [(inner[0], self._base("number")), (inner[1], self._base("number")), (place, self._base(result))]
        return [(place, self._base(kind))]

    def _base(self, kind):
        return self.graph.new_place((kind,))

    def _record_rule(self, node, place, inner):
        if node[0] == "empty":
            return [(place, self._row_place((), None))]
        row = self.graph.free_row()
        if node[0] == "extend":
            longer = ((node[1], inner[0]),)
            return [(inner[1], self._row_place((), row)), (place, self._row_place(longer, row))]
        if node[0] == "select":
            return [(inner[0], self._row_place(((node[1], place),), row))]
        longer = ((node[1], self._variable()),)
        return [(inner[0], self._row_place(longer, row)), (place, self._row_place((), row))]

    def _row_place(self, fields, row):
        return self.graph.new_place(("record", fields, row))
