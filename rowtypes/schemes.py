"""What names in reach have: one type, or all types that come from one."""


class Scheme:
    """The type at a place of a graph, with anything in the place of its free leaves."""

    def __init__(self, graph, place, free):
        self.graph = graph
        self.place = place
        self.free = free

    def instance(self):
        """A place with one of the types."""
        if not self.free:
            return self.place
        return self.graph.new_place(("use", self.place, self.free))


def fixed_scheme(graph, place):
    """A scheme of one type alone."""
    return Scheme(graph, place, {})


def general_scheme(graph, place):
    """A scheme of all types that come from the one at the place."""
    return Scheme(graph, place, graph.leaves([place]))


def let_scheme(graph, place, reach):
    """A scheme of all types that an expression has whose names have the schemes in reach."""
    # The free leaves of the schemes in reach are among these, too: they stand nowhere else.
    kept = graph.leaves([scheme.place for scheme in reach])
    free = {leaf: True for leaf in graph.leaves([place]) if leaf not in kept}
    return Scheme(graph, place, free)
