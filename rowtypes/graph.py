"""Types as places of a graph, which are joined so that types become alike.

A type is named by the number of its place. Types that were joined share what
stands within them, so a type that would be huge as a tuple stays small here.
"""

from rowtypes.types import MOST_SYMBOLS, symbols


class Graph:
    """Places of types, and rows, some of which are free: they can become any type or row."""

    def __init__(self):
        # A type shape, with places for types and the numbers of rows for ends.
        self.shapes = []
        # The place that a place was joined to, or itself.
        self.links = []
        # None for a free row, or else the pair (fields, number of the row behind or None).
        self.rows = []

    def new_place(self, shape):
        """A new place with this shape: ("var",), ("fun", place, place), ("record", fields, row) .."""
        self.shapes.append(shape)
        self.links.append(len(self.links))
        return len(self.links) - 1

    def free_row(self):
        """A new free row."""
        self.rows.append(None)
        return len(self.rows) - 1

    def root(self, place):
        """The place that stands for all that this one was joined with."""
        while self.links[place] != place:
            # Each step makes the way of the next one shorter.
            self.links[place] = self.links[self.links[place]]
            place = self.links[place]
        return place

    def whole_row(self, fields, row):
        """The pair (list of all fields, free row at the end or None) of a row."""
        found = list(fields)
        while row is not None and self.rows[row] is not None:
            inner, row = self.rows[row]
            found.extend(inner)
        return found, row

    def unite(self, one, other):
        """Whether two types can be made alike, but for types within themselves; they are then."""
        waiting = [(one, other)]
        while waiting:
            left, right = waiting.pop()
            left = self.root(left)
            right = self.root(right)
            if left != right:
                follows = self._link(left, right)
                if follows is None:
                    return False
                waiting.extend(follows)
        return True

    def _link(self, left, right):
        """Join two roots: the pairs of places that must be joined for it, or None."""
        one = self.shapes[left]
        other = self.shapes[right]
        if other[0] == "var":
            self.links[right] = left
            return []
        if one[0] != "var" and one[0] != other[0]:
            return None
        self.links[left] = right
        if one[0] == "fun":
            return [(one[1], other[1]), (one[2], other[2])]
        if one[0] == "record":
            return self._link_rows(self.whole_row(one[1], one[2]), self.whole_row(other[1], other[2]))
        return []

    def _link_rows(self, one, other):
        pairs, more, other_more = _paired(one[0], other[0])
        end = one[1]
        other_end = other[1]
        if (more and other_end is None) or (other_more and end is None):
            return None
        if (more or other_more) and end == other_end:
            return None
        if more and other_more:
            behind = self.free_row()
        elif more or end is None:
            behind = end
        else:
            behind = other_end
        for row, fields in ((end, other_more), (other_end, more)):
            if row != behind:
                self.rows[row] = (fields, behind)
        return pairs

    def parts(self, place):
        """The list of the roots that stand directly in the type at a root."""
        shape = self.shapes[place]
        if shape[0] == "fun":
            return [self.root(shape[1]), self.root(shape[2])]
        if shape[0] == "record":
            fields, _ = self.whole_row(shape[1], shape[2])
            return [self.root(inner) for _, inner in fields]
        return []

    def ordered(self):
        """The list of all roots, each behind its parts; None if a type stands in itself."""
        found = []
        # False while the parts of a root are looked at, True behind that.
        done = {}
        for start in range(len(self.links)):
            if not self._order_below(self.root(start), done, found):
                return None
        return found

    def _order_below(self, start, done, found):
        waiting = [start]
        while waiting:
            place = waiting[-1]
            if place in done:
                waiting.pop()
                if not done[place]:
                    done[place] = True
                    found.append(place)
            else:
                done[place] = False
                for part in self.parts(place):
                    if part not in done:
                        waiting.append(part)
                    elif not done[part]:
                        return False
        return True

    def types(self):
        """A dict from all roots to their types, None for one that is too large.

        It is None itself if a type stands in itself. The variables of the types have
        names of their own, which are no names of the language.
        """
        order = self.ordered()
        if order is None:
            return None
        built = {}
        for place in order:
            given = self._built(place, built)
            if given is not None and symbols(given) > MOST_SYMBOLS:
                given = None
            built[place] = given
        return built

    def _built(self, place, built):
        shape = self.shapes[place]
        inner = [built[part] for part in self.parts(place)]
        if None in inner:
            return None
        if shape[0] == "var":
            return ("var", f"t{place}")
        if shape[0] == "fun":
            return ("fun", inner[0], inner[1])
        if shape[0] == "record":
            fields, end = self.whole_row(shape[1], shape[2])
            labelled = [(label, given) for (label, _), given in zip(fields, inner)]
            return ("record", tuple(labelled), None if end is None else f"r{end}")
        return shape


def _counted(fields):
    """A dict from (label, how many fields with it stand ahead) to the place of the field."""
    found = {}
    many = {}
    for label, place in fields:
        at = many.get(label, 0)
        many[label] = at + 1
        found[(label, at)] = place
    return found


def _paired(fields, others):
    """The pairs of fields that meet, label by label, and the fields that each row alone has."""
    one = _counted(fields)
    other = _counted(others)
    pairs = [(place, other[key]) for key, place in one.items() if key in other]
    alone = [(key[0], place) for key, place in one.items() if key not in other]
    others_alone = [(key[0], place) for key, place in other.items() if key not in one]
    return pairs, alone, others_alone
