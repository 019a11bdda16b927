"""Most general unifiers of pairs of types."""

from rowtypes.errors import TooLarge
from rowtypes.graph import Graph
from rowtypes.types import all_types, told, type_parts


class Entry:
    """Enters types into a graph: the same variable always at the same place."""

    def __init__(self, graph):
        self.graph = graph
        self.kinds = {}
        self.ends = {}

    def enter(self, given):
        """A place in the graph with the type."""
        # Behind a type in reverse order stand the places of its parts, the first one on top.
        places = []
        for part in reversed(all_types(given)):
            inner = [places.pop() for _ in type_parts(part)]
            places.append(self._entered(part, inner))
        return places.pop()

    def _entered(self, part, inner):
        if part[0] == "var":
            return self._variable(part[1])
        if part[0] == "fun":
            return self.graph.new_place(("fun", inner[0], inner[1]))
        if part[0] == "record":
            fields = [(label, place) for (label, _), place in zip(part[1], inner)]
            return self.graph.new_place(("record", tuple(fields), self._row(part[2])))
        return self.graph.new_place(part)

    def _variable(self, name):
        if name not in self.kinds:
            self.kinds[name] = self.graph.new_place(("var",))
        return self.kinds[name]

    def _row(self, name):
        if name is None:
            return None
        if name not in self.ends:
            self.ends[name] = self.graph.free_row()
        return self.ends[name]

    def images(self):
        """The list of pairs (variable, place of its image), ascending."""
        found = list(self.kinds.items())
        for name, row in self.ends.items():
            found.append((name, self.graph.new_place(("record", (), row))))
        return sorted(found, key=lambda pair: pair[0])


def unify(pairs):
    """None, or the pairs (variable, image) of a most general unifier; raises TooLarge."""
    graph = Graph()
    entry = Entry(graph)
    for one, other in pairs:
        if not graph.unite(entry.enter(one), entry.enter(other)):
            return None
    images = entry.images()
    types = graph.types()
    if types is None:
        return None
    found = [types[graph.root(place)] for _, place in images]
    if None in found:
        raise TooLarge()
    names = [name for name, _ in images]
    return tuple(zip(names, told(tuple(found))))
