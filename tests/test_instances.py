import copy
import itertools
import unittest

from rowtypes.errors import TooLarge
from rowtypes.instances import images, is_instance, mean_same, meeting
from rowtypes.types import normal, substitute, symbols, told
from rowtypes.typetext import parse_type, type_text

# Pairs of types that mean the same.
SAME = """
number = number
a = b
a = a
a -> b = b -> a
a -> a = b -> b
{} = {}
{| r} = {| s}
{x: a, y: b} = {y: a, x: b}
{x: a, y: b | r} = {y: r, x: s | a}
{x: a, x: b | r} = {x: b, x: a | s}
{x: number, y: truth, x: truth} = {y: truth, x: number, x: truth}
{x: a | r} -> {y: a | r} = {x: c | a} -> {y: c | a}
"""

# Pairs of a type and a more general one that is no instance of it.
NARROWER = """
number = a
truth = a
{} = a
{} = {| r}
{| r} = a
a -> b = c
a -> a = a -> b
a -> a = b -> a
number -> a = a -> b
number -> number = a -> a
{x: number} = {x: a}
{x: number} = {| r}
{x: number} = {x: a | r}
{x: a, y: a} = {x: a, y: b}
{x: a, y: b} = {x: a | r}
{y: b, x: a | s} = {x: a | r}
{x: a, x: b} = {x: a | r}
{x: number, x: truth | s} = {x: a | s}
{x: b | a} = {| b}
{x: {| r} | r} = {x: {| r} | s}
{x: a | r} -> {y: a | r} = {x: a | r} -> {y: b | s}
{| r} -> {| r} = {| r} -> {| s}
{| r} -> {x: a | r} = {| r} -> {x: a | s}
(a -> a) -> a -> a = a -> a
{y: b} -> {x: number, y: b} = {| a} -> {x: b | a}
{y: b, y: c} -> {y: a, y: b, y: c} = {| r} -> {y: a | r}
{x: number, y: b} -> {y: b, x: number} = a -> a
"""

# Pairs of which neither is an instance of the other one.
APART = """
number = truth
number = {}
number = a -> b
{} = {x: a}
{} = {x: a | r}
{x: number} = {x: truth}
{x: a} = {y: a}
{x: a | r} = {y: a | r}
{x: a} = {x: a, x: b}
{x: a, y: b} = {x: a, z: b}
{x: number, x: truth} = {x: truth, x: number}
{x: number, x: a} = {x: a, x: number}
{x: a, x: number | r} = {x: number, x: a}
number -> a = a -> number
a -> a = number -> truth
a -> a = number -> b
{x: a, y: a} = {x: number, y: truth}
{| r} -> {| r} = {x: number} -> {}
{| r} -> {| r} = {x: number | r} -> {| s}
{| r} -> {x: a | r} = {x: number} -> {x: truth}
(a -> b) -> c = a -> b -> c
a -> b -> a = number -> truth -> truth
{x: a} = {x: number | r}
"""

# Two types and their meeting.
MEETINGS = """
a | b | a
number | number | number
number | truth | none
number | a | number
a -> b | number -> c | number -> a
a -> a | number -> c | number -> number
a -> a | b -> c | a -> a
a -> number | truth -> a | truth -> number
a -> number | a -> a | number -> number
a -> number | b -> truth | none
a | a -> b | a -> b
a -> b | a | a -> b
a -> a | a -> a -> b | none
a -> b -> b | a -> a | (a -> a) -> a -> a
a -> a -> b | b -> b | none
(a -> b) -> a | (b -> a) -> c | (a -> b) -> a
(a -> b) -> a | (a -> a) -> b | (a -> a) -> a
{} | {} | {}
{} | {@ r} | {}
{@ r} | {@ s} | {@ a}
{@ r} | {@ r} | {@ a}
{} | {x: a} | none
{x: a} | {y: a} | none
{x: a} | {x: number @ r} | {x: number}
{x: a} | {y: number @ r} | none
{x: a @ r} | {y: number @ r} | {x: a, y: number @ b}
{x: a @ r} | {x: b @ r} | {x: a @ b}
{x: a, x: b @ r} | {x: number @ r} | {x: number, x: a @ b}
{x: a, x: b} | {x: number, x: truth} | {x: number, x: truth}
{x: number, x: truth} | {x: truth, x: number} | none
{x: number, y: a} | {y: truth, x: b} | {x: number, y: truth}
{@ r} -> {@ r} | {x: a @ s} -> {y: b @ t} | {x: a, y: b @ c} -> {x: a, y: b @ c}
{@ r} -> {x: a @ r} | {x: number @ s} -> b | {x: number @ a} -> {x: b, x: number @ a}
{@ r} -> {x: a @ r} | b -> b | none
{x: a @ r} -> a | {y: truth @ s} -> number | {x: number, y: truth @ a} -> number
r -> {x: a @ s} | {@ r} -> {y: a @ r} | {x: a @ b} -> {x: a, y: c @ b}
"""


def pairs_in(table):
    """The pairs of types in the lines of a table."""
    return [tuple([parse_type(part) for part in line.split("=")]) for line in table.strip().splitlines()]


def arrows(many, last):
    """A type with twice so many symbols more than the last one."""
    for _ in range(many):
        last = ("fun", ("number",), last)
    return last


def small_types(variables, rows):
    """Some types with these variables."""
    atoms = [("number",), ("truth",)] + [("var", name) for name in variables]
    ends = [None] + list(rows)
    records = [("record", (), end) for end in ends]
    records += [("record", (("x", inner),), end) for inner in atoms for end in ends]
    records += [("record", (("y", one), ("x", other)), end)
                for one in atoms[::2] for other in atoms[1::2] for end in ends]
    records += [("record", (("x", one), ("x", other)), end)
                for one in atoms[1:3] for other in atoms[1:3] for end in ends]
    parts = atoms + records[:5]
    return atoms + records + [("fun", one, other) for one in parts for other in parts]


class Images(unittest.TestCase):
    def tells(self, given, general, **wanted):
        found = images(parse_type(given), parse_type(general))
        self.assertIsInstance(found, tuple)
        self.assertEqual([(name, type_text(image)) for name, image in found], sorted(wanted.items()))

    def none(self, given, general):
        self.assertIsNone(images(parse_type(given), parse_type(general)), (given, general))

    def test_examples(self):
        self.assertEqual(images(parse_type("{y: truth, x: number, z: b}"), parse_type("{x: a | r}")),
                         (("a", ("number",)), ("r", ("record", (("y", ("truth",)), ("z", ("var", "b"))), None))))
        self.assertIs(is_instance(parse_type("a -> b"), parse_type("a -> a")), False)
        self.assertIs(is_instance(parse_type("b -> b"), parse_type("a -> a")), True)

    def test_without_variables(self):
        for text in ("number", "truth", "{}", "{x: number, y: truth}", "number -> truth"):
            self.assertEqual(images(parse_type(text), parse_type(text)), (), text)
        self.assertEqual(images(parse_type("{y: number, x: truth}"), parse_type("{x: truth, y: number}")), ())
        self.none("a", "number")
        self.none("a", "{}")
        self.none("{| r}", "{}")

    def test_variables_of_types(self):
        self.tells("number", "a", a="number")
        self.tells("number -> truth", "a", a="number -> truth")
        self.tells("number -> truth", "b -> a", a="truth", b="number")
        self.tells("number -> truth -> number", "c -> aa -> c", aa="truth", c="number")
        self.tells("{x: number}", "a", a="{x: number}")
        self.none("number -> truth", "a -> a")
        self.none("truth", "a -> a")
        self.none("{}", "a -> a")

    def test_variables_of_rows(self):
        self.tells("{}", "{| r}", r="{}")
        self.tells("{| s}", "{| r}", r="{| s}")
        self.tells("{x: number}", "{| r}", r="{x: number}")
        self.tells("{x: number}", "{x: a | r}", a="number", r="{}")
        self.tells("{x: number | s}", "{x: a | r}", a="number", r="{| s}")
        self.tells("{x: number, x: truth | s}", "{x: a | r}", a="number", r="{x: truth | s}")
        self.tells("{x: {}} -> {y: truth, x: {}}", "{| r} -> {y: a | r}", a="truth", r="{x: {}}")
        self.none("{x: {}} -> {y: truth}", "{| r} -> {y: a | r}")
        self.none("{x: {}} -> {y: truth, z: {}}", "{| r} -> {y: a | r}")
        self.none("{| s} -> {y: truth | t}", "{| r} -> {y: a | r}")
        self.none("{}", "{x: a | r}")
        self.none("{| s}", "{x: a | r}")
        self.none("{x: a | s}", "{x: a}")
        self.none("number", "{| r}")
        self.none("a -> b", "{| r}")

    def test_the_same_names_in_both(self):
        self.tells("b -> b", "a -> b", a="b", b="b")
        self.tells("b -> a", "a -> b", a="b", b="a")
        self.tells("a -> a", "a -> a", a="a")
        self.tells("a -> a -> b", "a -> b", a="a", b="a -> b")
        self.tells("(a -> b) -> b", "a -> b", a="a -> b", b="b")
        self.none("a -> b", "a -> a")
        self.none("a -> a -> b", "a -> a")
        self.tells("{x: r | a}", "{x: a | r}", a="r", r="{| a}")
        self.tells("{x: a | r}", "{| r}", r="{x: a | r}")
        self.none("{x: a | s}", "{x: a}")
        self.none("{x: number | s} -> {| r}", "{x: number | r} -> {| r}")

    def test_ascending(self):
        self.tells("number -> truth -> {}", "z -> m -> a", a="{}", m="truth", z="number")
        found = images(parse_type("number -> {} -> truth -> {}"), parse_type("b -> {| c} -> a -> {| aa}"))
        self.assertEqual([name for name, _ in found], ["a", "aa", "b", "c"])

    def test_images_in_normal_form(self):
        self.tells("{z: truth, x: a, y: number | s}", "{y: b | r}", b="number", r="{x: a, z: truth | s}")
        self.tells("{z: truth, x: a, z: number} -> truth", "a -> b", a="{x: a, z: truth, z: number}", b="truth")
        self.tells("{x: {z: truth, a: number}}", "{x: b | r}", b="{a: number, z: truth}", r="{}")
        self.assertEqual(images(parse_type("{y: number, x: truth}"), parse_type("{| r}")),
                         (("r", ("record", (("x", ("truth",)), ("y", ("number",))), None)),))

    def test_alike_images(self):
        self.tells("{x: number, y: truth} -> {y: truth, x: number}", "a -> a", a="{x: number, y: truth}")
        self.tells("{z: {}, x: number, y: truth} -> {y: truth, x: number}", "{z: a | r} -> {| r}",
                   a="{}", r="{x: number, y: truth}")
        self.none("{x: number, x: truth} -> {x: truth, x: number}", "a -> a")
        self.none("{x: number, x: truth} -> {x: truth, x: number}", "{| r} -> {| r}")

    def test_the_same_label_twice(self):
        self.tells("{x: number, x: truth}", "{x: a, x: b}", a="number", b="truth")
        self.tells("{x: number, y: {}, x: truth}", "{x: a, x: b, y: c}", a="number", b="truth", c="{}")
        self.tells("{x: number, x: truth, x: {}}", "{x: a, x: b | r}", a="number", b="truth", r="{x: {}}")
        self.none("{x: number, x: truth}", "{x: a, x: a}")
        self.none("{x: number, x: truth}", "{x: truth, x: number}")
        self.none("{x: number, x: truth}", "{x: truth | r}")
        self.none("{x: number, x: truth}", "{x: a}")
        self.none("{x: number}", "{x: a, x: b}")
        self.none("{x: number}", "{x: a, x: b | r}")

    def test_images_make_the_type(self):
        for given in small_types("ab", "r"):
            for general in small_types("ab", "r"):
                found = images(given, general)
                if found is not None:
                    self.assertEqual(normal(substitute(general, dict(found))), normal(given))

    def test_no_image_is_missed(self):
        kinds = [("number",), ("truth",), ("var", "a"), ("record", (), None), ("record", (("x", ("truth",)),), "r")]
        rows = [("record", (), None), ("record", (), "r"), ("record", (("x", ("number",)), ("y", ("truth",))), None)]
        for general in small_types("ab", "r"):
            for one, other, row in itertools.product(kinds, kinds, rows):
                made = substitute(general, {"a": one, "b": other, "r": row})
                found = dict(images(made, general))
                wanted = {"a": one, "b": other, "r": row}
                self.assertEqual(found, {name: normal(wanted[name]) for name in found})

    def test_types_that_are_deep(self):
        deep = ("number",)
        for _ in range(2000):
            deep = ("record", (("x", deep),), None)
        found = images(("fun", deep, deep), ("fun", ("var", "a"), ("var", "a")))
        self.assertEqual([found[0][0], symbols(found[0][1])], ["a", 4001])


class Meaning(unittest.TestCase):
    def check(self, one, other, first, second):
        self.assertIs(is_instance(one, other), first, (one, other))
        self.assertIs(is_instance(other, one), second, (other, one))
        self.assertIs(mean_same(one, other), first and second, (one, other))
        self.assertIs(mean_same(other, one), first and second, (other, one))

    def test_types_that_mean_the_same(self):
        for one, other in pairs_in(SAME):
            self.check(one, other, True, True)

    def test_only_one_is_an_instance(self):
        for one, other in pairs_in(NARROWER):
            self.check(one, other, True, False)

    def test_neither_is_an_instance(self):
        for one, other in pairs_in(APART):
            self.check(one, other, False, False)

    def test_alike_told_forms(self):
        types = small_types("abr", "st")
        for one, other in itertools.product(types[::3], types):
            if mean_same(one, other):
                self.assertEqual(told((one,)), told((other,)))
            else:
                self.assertNotEqual(told((one,)), told((other,)))


class Meetings(unittest.TestCase):
    def test_both_orders(self):
        for line in MEETINGS.strip().splitlines():
            one, other, wanted = [part.replace("@", "|").strip() for part in line.split("|")]
            for first, second in ((one, other), (other, one)):
                found = meeting(parse_type(first), parse_type(second))
                told_text = "none" if found is None else type_text(found)
                self.assertEqual(told_text, wanted, (first, second))

    def test_example(self):
        found = meeting(parse_type("{x: a | r} -> a"), parse_type("{y: truth | s} -> number"))
        self.assertEqual(type_text(found), "{x: number, y: truth | a} -> number")

    def test_told_in_normal_form(self):
        found = meeting(parse_type("{y: c, x: b | r} -> c"), parse_type("d"))
        self.assertEqual(type_text(found), "{x: a, y: b | c} -> b")

    def test_it_is_the_most_general_instance_of_both(self):
        types = small_types("ab", "r")
        closed = small_types("", "")
        for one, other in itertools.product(types[::4], types[::3]):
            found = meeting(one, other)
            if found is not None:
                self.assertTrue(is_instance(found, one) and is_instance(found, other))
                self.assertEqual(told((found,)), (found,))
            for given in closed:
                both = is_instance(given, one) and is_instance(given, other)
                self.assertEqual(both, found is not None and is_instance(given, found), (one, other, given))

    def test_names_have_nothing_to_do_with_one_another(self):
        self.assertEqual(type_text(meeting(parse_type("a -> number"), parse_type("truth -> a"))), "truth -> number")
        self.assertEqual(type_text(meeting(parse_type("r"), parse_type("{x: number | r}"))), "{x: number | a}")
        self.assertEqual(type_text(meeting(parse_type("r -> number"), parse_type("{| r} -> a"))), "{| a} -> number")

    def test_200_and_201_symbols(self):
        row = ("record", (), "r")
        for last, many in ((("var", "a"), 201), (row, 202)):
            small, large = arrows(99, last), arrows(100, last)
            self.assertEqual(symbols(meeting(small, ("var", "b"))), many - 2)
            with self.assertRaises(TooLarge):
                meeting(large, ("var", "b"))
            with self.assertRaises(TooLarge):
                meeting(("var", "b"), large)
        self.assertEqual(symbols(meeting(arrows(99, row), arrows(99, row))), 200)
        # Together they have more symbols than each one has.
        left, right = ("fun", ("var", "a"), arrows(50, ("truth",))), ("fun", arrows(49, ("truth",)), ("var", "b"))
        with self.assertRaises(TooLarge):
            meeting(left, right)
        smaller = ("fun", arrows(48, ("truth",)), ("var", "b"))
        self.assertEqual(symbols(meeting(left, smaller)), 199)

    def test_meetings_that_double(self):
        # Each image has twice the symbols of the next one.
        names = [one + other for one in "xyz" for other in "abcdefghijklmnopqrstuvwxyz"]
        one = other = ("number",)
        for first, second in itertools.pairwise(names):
            one = ("fun", ("var", first), one)
            other = ("fun", ("fun", ("var", second), ("var", second)), other)
        pairs = [("fun", ("var", "a"), ("var", "a")), ("fun", one, other)]
        with self.assertRaises(TooLarge):
            meeting(*pairs)
        clash = [("fun", pairs[0], ("number",)), ("fun", pairs[1], ("truth",))]
        self.assertIsNone(meeting(*clash))

    def test_arguments_stay(self):
        one, other = parse_type("{y: c, x: b | r} -> c"), parse_type("{x: a, z: number | s} -> b")
        ahead = copy.deepcopy((one, other))
        meeting(one, other)
        images(one, other)
        mean_same(one, other)
        self.assertEqual((one, other), ahead)


if __name__ == "__main__":
    unittest.main()
