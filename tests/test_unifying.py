import itertools
import unittest

from rowtypes.errors import TooLarge
from rowtypes.types import normal, substitute, symbols, told, variables
from rowtypes.typetext import parse_type, type_text
from rowtypes.unifying import unify


def pairs_of(*texts):
    """The pairs of types of texts like "a = b"."""
    return tuple([tuple([parse_type(part) for part in text.split("=")]) for text in texts])


def chain(many):
    """A function type of 2 * many + 1 symbols."""
    given = ("number",)
    for _ in range(many):
        given = ("fun", ("truth",), given)
    return given


def doubling(prefix):
    """Texts of pairs by which each variable has twice the symbols of the next one."""
    names = [prefix + first + second for first in "abc" for second in "abcdefghijklmnopqrstuvwxyz"]
    return [f"{one} = {other} -> {other}" for one, other in itertools.pairwise(names)]


class Unify(unittest.TestCase):
    def unifies(self, *texts, **wanted):
        found = unify(pairs_of(*texts))
        self.assertIsNotNone(found, texts)
        self.assertIsInstance(found, tuple)
        self.assertEqual([(name, type_text(image)) for name, image in found], sorted(wanted.items()), texts)
        images = dict(found)
        for one, other in pairs_of(*texts):
            self.assertEqual(normal(substitute(one, images)), normal(substitute(other, images)), texts)

    def none(self, *texts):
        self.assertIsNone(unify(pairs_of(*texts)), texts)
        turned = [" = ".join(reversed(text.split("="))) for text in texts]
        self.assertIsNone(unify(pairs_of(*turned)), texts)

    def test_no_pairs_and_no_variables(self):
        self.assertEqual(unify(()), ())
        for text in ("number = number", "{} = {}", "{x: number, y: truth} = {y: truth, x: number}",
                     "number -> truth = number -> truth"):
            self.unifies(text)
        self.none("number = truth")

    def test_variables(self):
        self.unifies("a = a", a="a")
        self.unifies("c = b", b="a", c="a")
        self.unifies("b = number", b="number")
        self.unifies("number = b", b="number")
        self.unifies("z -> y = y -> truth", y="truth", z="truth")
        self.unifies("z -> y = x", x="a -> b", y="b", z="a")
        self.unifies("a -> b = b -> a", a="a", b="a")
        self.unifies("{| r} = {| r}", r="{| a}")
        self.unifies("{| s} = {| r}", r="{| a}", s="{| a}")
        self.unifies("{| s} = {}", s="{}")
        self.unifies("{} = {| s}", s="{}")
        self.unifies("{| r} = a", a="{| a}", r="{| a}")

    def test_ascending_and_told_together(self):
        self.unifies("z -> b = c -> aa", aa="a", b="a", c="b", z="b")
        self.unifies("{y: q, x: p | r} = t", p="a", q="b", r="{| c}", t="{x: a, y: b | c}")
        self.unifies("{y: b, x: c | a} = d", a="{| a}", b="b", c="c", d="{x: c, y: b | a}")

    def test_images_in_normal_form(self):
        self.unifies("a = {y: number, x: truth, y: truth}", a="{x: truth, y: number, y: truth}")
        self.unifies("{| r} = {y: number, x: {z: truth, b: number}}", r="{x: {b: number, z: truth}, y: number}")

    def test_kinds_that_meet(self):
        kinds = ["number", "truth", "{}", "{x: number}", "{| r}", "a -> b", "number -> number"]
        alike = {("{}", "{| r}"), ("{x: number}", "{| r}"), ("a -> b", "number -> number")}
        for one, other in itertools.combinations(kinds, 2):
            found = unify(pairs_of(one + " = " + other))
            self.assertEqual(found is not None, (one, other) in alike, (one, other))
        self.none("a -> a = number -> truth")
        self.none("{x: a, y: a} = {x: number, y: {}}")
        self.none("a = number", "b = truth", "a = b")

    def test_a_variable_in_its_own_image(self):
        self.none("a = a -> a")
        self.none("a = number -> a")
        self.none("a = {x: a}")
        self.none("a -> b = b -> {x: a | r}")
        self.none("a = b -> number", "b = {x: a}")
        self.none("{| r} = {x: number | r}")
        self.none("{| r} = {x: {| r}}")
        self.none("{| r} = {x: {y: number | r} -> truth | s}")
        self.none("{| r} = {x: number | s}", "{| s} = {y: number | r}")
        self.none("{| r} = {x: a | s}", "a = {| r}")
        self.none("{x: a | r} = {y: {| r} | s}")
        self.unifies("a = a", "{| r} = {| r}", a="a", r="{| b}")
        self.none("{x: number, x: truth | r} = {x: number | r}")

    def test_fields_without_a_row_variable(self):
        self.none("{} = {x: number}")
        self.none("{x: a} = {y: a}")
        self.none("{x: a} = {x: a, y: b}")
        self.none("{x: a, x: b} = {x: a}")
        self.none("{x: a} = {x: a, y: b | r}")
        self.none("{x: a | r} = {y: b}")
        self.none("{y: number} = {| r}", "{x: a | s} = {| r}")

    def test_fields_and_the_same_row_variable(self):
        self.none("{x: a | r} = {y: b | r}")
        self.none("{x: a, z: c | r} = {y: b, z: c | r}")
        self.none("{x: a | r} = {y: b | s}", "{| r} = {| s}")
        self.none("{x: a | r} = t", "{y: b | r} = t")
        self.unifies("{x: a, y: number | r} = {y: b, x: truth | r}", a="truth", b="number", r="{| a}")

    def test_fields_of_one_row_alone(self):
        self.unifies("{x: number | r} = {y: truth, x: a}", a="number", r="{y: truth}")
        self.unifies("{y: truth, x: a} = {x: number | r}", a="number", r="{y: truth}")
        self.unifies("{x: number | r} = {y: truth, x: a | s}", a="number", r="{y: truth | a}", s="{| a}")
        self.unifies("{y: truth, x: a | s} = {x: number | r}", a="number", r="{y: truth | a}", s="{| a}")
        self.unifies("{| r} = {y: truth, x: a | s}", a="a", r="{x: a, y: truth | b}", s="{| b}")

    def test_fields_of_both_rows_alone(self):
        self.unifies("{x: a | r} = {y: number | s}", a="a", r="{y: number | b}", s="{x: a | b}")
        self.unifies("{x: a, z: b | r} = {z: number, y: a | s}", a="a", b="number", r="{y: a | b}", s="{x: a | b}")
        self.unifies("{y: a, x: b | r} = {w: c, z: d | s}", a="a", b="b", c="c", d="d",
                     r="{w: c, z: d | e}", s="{x: b, y: a | e}")

    def test_the_same_label_more_than_once(self):
        self.unifies("{x: number, x: truth} = {x: a, x: b}", a="number", b="truth")
        self.none("{x: number, x: truth} = {x: truth, x: number}")
        self.unifies("{x: a, y: truth, x: b} = {y: c, x: number, x: {}}", a="number", b="{}", c="truth")
        self.unifies("{x: a | r} = {x: number, x: truth}", a="number", r="{x: truth}")
        self.unifies("{x: a | r} = {x: number, x: truth, y: a, x: {} | s}", a="number",
                     r="{x: truth, x: {}, y: number | a}", s="{| a}")
        self.unifies("{x: a, x: b, y: c | r} = {x: number, z: truth | s}", a="number", b="a", c="b",
                     r="{z: truth | c}", s="{x: a, y: b | c}")
        self.unifies("{x: a | r} = {x: b | r}", a="a", b="a", r="{| b}")

    def test_rows_that_are_known_in_part(self):
        self.unifies("{| r} = {x: number | s}", "{x: a, x: b | t} = {| r}",
                     a="number", b="a", r="{x: number, x: a | b}", s="{x: a | b}", t="{| b}")
        self.unifies("{x: a | r} = {y: b | s}", "{| r} = {y: number}", a="a", b="number", r="{y: number}",
                     s="{x: a}")
        self.unifies("{x: a | r} = t", "{y: b | s} = t", "t = {x: c, y: d, z: c -> d}", a="a", b="b", c="a", d="b",
                     r="{y: b, z: a -> b}", s="{x: a, z: a -> b}", t="{x: a, y: b, z: a -> b}")

    def test_pairs_that_share_variables(self):
        self.unifies("a = b -> c", "b = number", "c = {| r}", "{| r} = {x: b}",
                     a="number -> {x: number}", b="number", c="{x: number}", r="{x: number}")
        self.unifies("a = b", "c = d", "b = c", a="a", b="a", c="a", d="a")
        self.none("a = b", "b = number", "a = truth")

    def test_image_of_200_and_of_201_symbols(self):
        record = ("record", (("x", chain(98)),), "r")
        self.assertEqual(symbols(record), 200)
        for given in (record, ("fun", ("record", (), "r"), chain(98))):
            self.assertEqual(symbols(given), 200)
            self.assertEqual(dict(unify(((("var", "a"), given),)))["a"], told((given,))[0])
        for given in (chain(100), ("record", (("x", chain(98)), ("y", ("var", "b"))), None)):
            self.assertEqual(symbols(given), 201)
            with self.assertRaises(TooLarge):
                unify(((("var", "a"), given),))

    def test_image_of_a_row_of_200_and_of_201_symbols(self):
        closed = ("record", (("x", chain(98)),), None)
        self.assertEqual(symbols(closed), 199)
        for end, many in (("s", 200), (None, 199)):
            found = dict(unify(((("record", (("y", ("number",)),), "r"),
                                 ("record", (("x", chain(98)), ("y", ("number",))), end)),)))
            self.assertEqual(symbols(found["r"]), many)
        larger = ("record", (("x", ("fun", ("record", (), None), ("record", (), "q"))), ("y", chain(96))), "s")
        self.assertEqual(symbols(larger), 201)
        with self.assertRaises(TooLarge):
            unify(((("record", (), "r"), larger),))

    def test_large_types_with_small_images(self):
        self.assertEqual(unify(((chain(150), chain(150)),)), ())
        one = ("fun", ("var", "a"), chain(150))
        other = ("fun", ("number",), chain(150))
        self.assertEqual(unify(((one, other),)), (("a", ("number",)),))
        self.assertIsNone(unify(((chain(150), chain(151)),)))

    def test_images_that_double(self):
        doubled = doubling("v")
        self.assertEqual(len(unify(pairs_of(*doubled[:6]))), 7)
        for rows in (doubled[:7], doubled, doubled[::-1]):
            with self.assertRaises(TooLarge):
                unify(pairs_of(*rows))
        self.none(*doubled, "vcz = number", "vcz = truth")
        self.none(*doubled, "vcz = vaa")
        self.none(*doubled, "vaa = number")
        copies = doubling("w")
        with self.assertRaises(TooLarge):
            unify(pairs_of(*doubled, *copies, "vaa = waa", "vcz = number"))
        self.none(*doubled, *copies, "vaa = waa", "vcz = number", "wcz = truth")

    def test_examples(self):
        self.unifies("{x: a | r} = {y: number | s}", a="a", r="{y: number | b}", s="{x: a | b}")
        self.none("a = a -> a")
        self.none("{x: a | r} = {y: b | r}")


def ground_images(names, images):
    """All dicts from the names to the images."""
    return [dict(zip(names, row)) for row in itertools.product(images, repeat=len(names))]


class MostGeneral(unittest.TestCase):
    """Over types without variables: what a unifier does, comes from the one that is told."""

    kinds = [parse_type(text) for text in ("number", "truth", "{}", "{x: number}", "number -> number")]
    rows = [parse_type(text) for text in ("{}", "{x: number}", "{x: truth}", "{y: number}", "{x: number, y: number}",
                                          "{x: number, x: truth}", "{x: truth, x: number, y: number}")]
    sides = ["a", "a -> b", "{| r}", "{x: a | r}", "{y: b | s}", "{x: a, y: b}", "{x: b, x: a | s}",
             "{y: number, x: a | r}", "{x: number}", "{| s}", "{x: number, x: truth}", "{x: {| s} | r}"]

    def is_unifier(self, pair, images):
        return normal(substitute(pair[0], images)) == normal(substitute(pair[1], images))

    def comes_from(self, found, images):
        """Whether the images are what a further substitution makes of the found ones."""
        names = set()
        for _, image in found:
            names.update(*variables(image))
        # The variables on the right side are none, so unifying is matching here.
        return unify(tuple([(image, images[name]) for name, image in found])) is not None

    def test_all_pairs(self):
        unified = 0
        for texts in itertools.combinations_with_replacement(self.sides, 2):
            pair = tuple([parse_type(text) for text in texts])
            found = unify((pair,))
            kinds, rows = variables(("fun", pair[0], pair[1]))
            tried = [{**one, **other} for one in ground_images(kinds, self.kinds)
                     for other in ground_images(rows, self.rows)]
            unifiers = [images for images in tried if self.is_unifier(pair, images)]
            if found is None:
                self.assertEqual(unifiers, [], texts)
            else:
                unified += 1
                self.assertTrue(self.is_unifier(pair, dict(found)), texts)
                self.assertEqual(tuple([image for _, image in found]), told(tuple([image for _, image in found])))
                for images in unifiers:
                    self.assertTrue(self.comes_from(found, images), (texts, images))
        self.assertGreater(unified, 30)


if __name__ == "__main__":
    unittest.main()
