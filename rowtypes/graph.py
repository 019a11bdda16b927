"""Types as places of a graph, which are joined so that types become alike.

A type is named by the number of its place. Types that were joined share what
stands within them, so a type that would be huge as a tuple stays small here.
"""

from rowtypes.types import MOST_SYMBOLS, substitute, symbols, variables


class Graph:
    """Places of types, and rows, some of which are free: they can become any type or row."""

    def __init__(self):
        # A type shape, with places for types and the numbers of rows for ends.
        self.shapes = []
        # The place that a place was joined to, or itself.
        self.links = []
        # None for a free row, or else the pair (fields, number of the row behind or None).
        self.rows = []

    def new_place(self, shape):
        """A new place with this shape: ("var",), ("fun", place, place), ("record", fields, row) ..

        The shape ("use", place, leaves) has the type at that place, but with leaves of its
        own for these. It is copied only when it meets another type: types that double with
        each use stay small.
        """
        self.shapes.append(shape)
        self.links.append(len(self.links))
        return len(self.links) - 1

    def free_row(self):
        """A new free row."""
        self.rows.append(None)
        return len(self.rows) - 1

    def root(self, place):
        """The place that stands for all that this one was joined with."""
        while self.links[place] != place:
            # Each step makes the way of the next one shorter.
            self.links[place] = self.links[self.links[place]]
            place = self.links[place]
        return place

    def whole_row(self, fields, row):
        """The pair (list of all fields, free row at the end or None) of a row."""
        found = list(fields)
        while row is not None and self.rows[row] is not None:
            inner, row = self.rows[row]
            found.extend(inner)
        return found, row

    def unite(self, one, other):
        """Whether two types can be made alike, but for types within themselves; they are then."""
        waiting = [(one, other)]
        while waiting:
            left, right = waiting.pop()
            left = self.root(left)
            right = self.root(right)
            if left != right:
                follows = self._link(left, right)
                if follows is None:
                    return False
                waiting.extend(follows)
        return True

    def _link(self, left, right):
        """Join two roots: the pairs of places that must be joined for it, or None."""
        one = self.shapes[left]
        other = self.shapes[right]
        if other[0] == "var":
            self.links[right] = left
            return []
        if one[0] == "use" or (other[0] == "use" and one[0] != "var"):
            return self._link_uses(left, right)
        if one[0] != "var" and one[0] != other[0]:
            return None
        self.links[left] = right
        if one[0] == "fun":
            return [(one[1], other[1]), (one[2], other[2])]
        if one[0] == "record":
            return self._link_rows(self.whole_row(one[1], one[2]), self.whole_row(other[1], other[2]))
        return []

    def _link_rows(self, one, other):
        pairs, more, other_more = _paired(one[0], other[0])
        end = one[1]
        other_end = other[1]
        if (more and other_end is None) or (other_more and end is None):
            return None
        if (more or other_more) and end == other_end:
            return None
        if more and other_more:
            behind = self.free_row()
        elif more or end is None:
            behind = end
        else:
            behind = other_end
        for row, fields in ((end, other_more), (other_end, more)):
            if row != behind:
                self.rows[row] = (fields, behind)
        return pairs

    def _link_uses(self, left, right):
        one = self.shapes[left]
        other = self.shapes[right]
        if one[0] == other[0] and self.root(one[1]) == self.root(other[1]) and one[2] == other[2]:
            # Two uses of one type are alike when their own leaves are, one by one.
            self.links[left] = right
            return []
        opened = (self._opened(left), self._opened(right))
        return None if None in opened else [opened]

    def _opened(self, place):
        """The root, or what it is a use of, copied; None for a use that stands in itself."""
        shape = self.shapes[place]
        if shape[0] != "use":
            return place
        # Copies of what stands in itself could go on for ever: each one has uses to be copied.
        if not self._order_below(place, {}, []):
            return None
        copy = self._copied(shape[1], shape[2])
        self.links[place] = copy
        return copy

    def parts(self, place):
        """The list of the roots that stand directly in the type at a root; for a use, what it uses."""
        shape = self.shapes[place]
        if shape[0] == "use":
            return [self.root(shape[1])]
        if shape[0] == "fun":
            return [self.root(shape[1]), self.root(shape[2])]
        if shape[0] == "record":
            fields, _ = self.whole_row(shape[1], shape[2])
            return [self.root(inner) for _, inner in fields]
        return []

    def _reached(self, starts):
        """A dict of all roots that stand in the types at some places, their own roots included."""
        found = {}
        waiting = [self.root(start) for start in starts]
        while waiting:
            place = waiting.pop()
            if place not in found:
                found[place] = True
                waiting.extend(self.parts(place))
        return found

    def _leaf(self, place):
        """The pair ("place", root) for a variable or a use, ("row", number) for a record with
        a free row at its end; None for all other roots."""
        shape = self.shapes[place]
        if shape[0] in ("var", "use"):
            return ("place", place)
        if shape[0] == "record":
            _, row = self.whole_row(shape[1], shape[2])
            if row is not None:
                return ("row", row)
        return None

    def leaves(self, starts):
        """A dict of the leaves of all that stands in the types at some places."""
        found = {}
        replaced = {}
        for place in self._reached(starts):
            shape = self.shapes[place]
            if shape[0] == "use":
                for leaf in shape[2]:
                    replaced[leaf] = True
            found[self._leaf(place)] = True
        # What a use replaces stands nowhere but in what is used.
        return {leaf: True for leaf in found if leaf is not None and leaf not in replaced}

    def _copied(self, start, leaves):
        """A place with the type at this one, but with new leaves for those in the dict."""
        above = self._above(start, leaves)
        # What has none of these leaves is shared, not copied.
        copies = {part: self.new_place(("var",)) for part in above if isinstance(part, int)}
        fresh = {}
        for kind, number in [part for part in above if not isinstance(part, int)]:
            fresh[(kind, number)] = (kind, self.free_row() if kind == "row" else copies[number])
        for place, copy in copies.items():
            self.shapes[copy] = self._copied_shape(place, copies, fresh)
        return copies.get(self.root(start), start)

    def _above(self, start, leaves):
        """A dict of the leaves and of all roots in the type at a place that have one of them
        within them; when what is used is among these, the leaves that its uses replace are, too."""
        whole = {}
        for place in self._reached([start]):
            shape = self.shapes[place]
            whole.setdefault(self._leaf(place), []).append(place)
            for part in self.parts(place):
                whole.setdefault(part, []).append(place)
                if shape[0] == "use":
                    whole[part].extend(list(shape[2]))
        found = {}
        waiting = list(leaves)
        while waiting:
            part = waiting.pop()
            if part not in found:
                found[part] = True
                waiting.extend(whole.get(part, []))
        return found

    def _copied_shape(self, place, copies, fresh):
        shape = self.shapes[place]
        inner = [copies.get(part, part) for part in self.parts(place)]
        if shape[0] == "fun":
            return ("fun", inner[0], inner[1])
        if shape[0] == "use":
            return ("use", inner[0], {fresh.get(leaf, leaf): True for leaf in shape[2]})
        if shape[0] == "record":
            fields, row = self.whole_row(shape[1], shape[2])
            labelled = [(label, part) for (label, _), part in zip(fields, inner)]
            _, end = fresh.get(("row", row), ("row", row))
            return ("record", tuple(labelled), end)
        return shape

    def ordered(self):
        """The list of all roots, each behind its parts; None if a type stands in itself."""
        found = []
        # False while the parts of a root are looked at, True behind that.
        done = {}
        for start in range(len(self.links)):
            if not self._order_below(self.root(start), done, found):
                return None
        return found

    def _order_below(self, start, done, found):
        """Whether no type from the root on stands in itself; adds the new roots to those found."""
        waiting = [start]
        while waiting:
            place = waiting[-1]
            if place in done:
                waiting.pop()
                if not done[place]:
                    done[place] = True
                    found.append(place)
            else:
                done[place] = False
                for part in self.parts(place):
                    if part not in done:
                        waiting.append(part)
                    elif not done[part]:
                        return False
        return True

    def types(self):
        """A dict from all roots to their types, None for one that is too large.

        It is None itself if a type stands in itself. The variables of the types have
        names of their own, which are no names of the language.
        """
        order = self.ordered()
        if order is None:
            return None
        built = {}
        # The leaves that the names of the variables belong to.
        owners = {}
        for place in order:
            given = self._built(place, built, owners)
            if given is not None and symbols(given) > MOST_SYMBOLS:
                given = None
            built[place] = given
        return built

    def _built(self, place, built, owners):
        shape = self.shapes[place]
        inner = [built[part] for part in self.parts(place)]
        if None in inner:
            return None
        if shape[0] == "use":
            return self._used(place, inner[0], owners)
        if shape[0] == "var":
            return ("var", _own_name("t", ("place", place), owners))
        if shape[0] == "fun":
            return ("fun", inner[0], inner[1])
        if shape[0] == "record":
            fields, row = self.whole_row(shape[1], shape[2])
            labelled = [(label, given) for (label, _), given in zip(fields, inner)]
            end = None if row is None else _own_name("r", ("row", row), owners)
            return ("record", tuple(labelled), end)
        return shape

    def _used(self, place, given, owners):
        """The type with names of its own for the variables that the use at the place replaces."""
        replaced = self.shapes[place][2]
        kinds, rows = variables(given)
        images = {}
        for name in kinds + rows:
            if owners[name] in replaced:
                fresh = f"{name}u{place}"
                owners[fresh] = ("place", place)
                images[name] = ("record", (), fresh) if name in rows else ("var", fresh)
        return substitute(given, images)


def _own_name(letter, leaf, owners):
    name = f"{letter}{leaf[1]}"
    owners[name] = leaf
    return name


def _counted(fields):
    """A dict from (label, how many fields with it stand ahead) to the place of the field."""
    found = {}
    many = {}
    for label, place in fields:
        at = many.get(label, 0)
        many[label] = at + 1
        found[(label, at)] = place
    return found


def _paired(fields, others):
    """The pairs of fields that meet, label by label, and the fields that each row alone has."""
    one = _counted(fields)
    other = _counted(others)
    pairs = [(place, other[key]) for key, place in one.items() if key in other]
    alone = [(key[0], place) for key, place in one.items() if key not in other]
    others_alone = [(key[0], place) for key, place in other.items() if key not in one]
    return pairs, alone, others_alone
