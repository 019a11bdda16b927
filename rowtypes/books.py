"""Books of definitions, which are edited."""

from rowtypes.edits import define_line, read_definitions, refuse_definitions, ring_types, with_definitions
from rowtypes.errors import BadArgument, BadEdit
from rowtypes.questions import asked_run, asked_type
from rowtypes.rings import touched, typing_order


class Book:
    """Definitions with their types. An edit that is refused changes nothing."""

    def __init__(self):
        # The pairs (name, expression), in order.
        self.pairs = ()
        self.known_types = {}
        self.order = []
        # The definitions ahead of each edit that was not undone.
        self.earlier = []
        self.lines = []

    def define(self, pairs):
        """Define names anew, or further ones: the list of the names that are touched; raises BadEdit."""
        made = read_definitions(pairs)
        return self._edit(with_definitions(self.pairs, made), define_line(made))

    def remove(self, name):
        """Remove a definition: the list of the names that are touched; raises BadEdit."""
        if name not in self.known_types:
            raise BadEdit(f"unknown definition {name}")
        left = [pair for pair in self.pairs if pair[0] != name]
        return self._edit(tuple(left), f"remove {name}")

    def undo(self):
        """Undo the last other edit: the list of the names that are touched; raises BadEdit."""
        if not self.earlier:
            raise BadEdit("no edit")
        names = self._change(self.earlier[-1])
        self.earlier.pop()
        self.lines.append("undo")
        return names

    def _edit(self, pairs, line):
        ahead = self.pairs
        names = self._change(pairs)
        self.earlier.append(ahead)
        self.lines.append(line)
        return names

    def _change(self, pairs):
        """Take these definitions in the place of all that there are: the names that are touched."""
        refuse_definitions(pairs)
        order = typing_order(pairs)
        names = touched(self.pairs, pairs)
        known = {}
        for ring in order:
            # All of a ring is touched if one of it is.
            if ring[0] in names:
                together = [pair for pair in pairs if pair[0] in ring]
                known.update(ring_types(together, known))
            else:
                known.update({name: self.known_types[name] for name in ring})
        self.pairs = pairs
        self.known_types = known
        self.order = order
        return names

    def definitions(self):
        """The tuple of the pairs (name, expression)."""
        return self.pairs

    def type_of(self, name):
        """The type of a definition; raises BadArgument."""
        if name not in self.known_types:
            raise BadArgument("name")
        return self.known_types[name]

    def ask(self, text):
        """The type of an expression in the book, or None; raises BadText, TooLarge and BadArgument."""
        return asked_type(text, self.known_types)

    def run(self, text, most):
        """What an expression comes to in the book in so many steps; raises BadText and BadArgument."""
        return asked_run(text, self.pairs, most)

    def rings(self):
        """The list of the tuples of names that were typed together, in this order."""
        return list(self.order)

    def journal(self):
        """The lines of all edits that were not refused."""
        return "".join([line + "\n" for line in self.lines])
