import copy
import random
import unittest

from rowtypes.books import Book
from rowtypes.errors import BadArgument, BadEdit, BadText, TooLarge
from rowtypes.expressions import free_names, nodes
from rowtypes.instances import is_instance
from rowtypes.journal import replay
from rowtypes.reading import parse_expression
from rowtypes.running import step
from rowtypes.types import symbols, told
from rowtypes.typetext import parse_type, type_text
from rowtypes.typings import typed, typed_in
from rowtypes.writing import expression_text
from tests.helpers import some_expression
from tests.naive_book import NaiveBook, Refused, types_of_ring

EVEN = "fun n => if n == 0 then true else odd (n - 1)"
ODD = "fun n => if n == 0 then false else even (n - 1)"

# Books, and the types of their definitions.
TYPES = """
a = 1 :: a: number
a = fun x => x :: a: a -> a
a = b ; b = fun x => x :: a: a -> a, b: a -> a
a = fun x => b x ; b = fun x => x :: a: a -> a, b: a -> a
a = b 1 ; b = fun x => x ; c = b true :: a: number, b: a -> a, c: truth
a = {l = b 1, m = b true} ; b = fun x => x :: a: {l: number, m: truth}, b: a -> a
a = fun x => a x :: a: a -> b
a = fun x => a 1 :: a: number -> a
a = a :: a: a
a = b ; b = a :: a: a, b: a
a = fun x => b x ; b = fun x => a x :: a: a -> b, b: a -> b
a = fun x => b 1 ; b = fun x => a x :: a: number -> a, b: number -> a
a = fun x => b x ; b = fun x => c x ; c = fun x => a x :: a: a -> b, b: a -> b, c: a -> b
a = fun x => b x ; b = fun x => c x ; c = fun x => if true then a x else 1 :: a: a -> number, b: a -> number, c: a -> number
a = fun x => b x ; b = fun y => a y ; c = {l = a 1, m = a true} :: a: a -> b, b: a -> b, c: {l: a, m: b}
a = fun x => {l = x, m = b} ; b = fun y => (a y).l :: a: a -> {l: a, m: a -> a}, b: a -> a
a = fun x => fun y => b y x ; b = fun x => fun y => a x y :: a: a -> a -> b, b: a -> a -> b
a = fun r => r.l ; b = fun r => {m = a r | r} ; c = b {l = 1} :: a: {l: a | b} -> a, b: {l: a | b} -> {l: a, m: a | b}, \
c: {l: number, m: number}
a = let i = fun x => x in i i ; b = {p = a 1, q = a {}} :: a: a -> a, b: {p: number, q: {}}
a = {} ; b = a ; c = {l = b | b} :: a: {}, b: {}, c: {l: {}}
a = fun x => 1 + b x ; b = fun x => c x 2 ; c = fun x => fun y => a x + y :: a: a -> number, b: a -> number, \
c: a -> number -> number
number = truth ; truth = 1 :: number: number, truth: number
"""

# Books that are refused, with the reason.
NO_TYPES = """
a = 1 2 :: no type of a
a = fun x => x x :: no type of a
a = fun x => a :: no type of a
a = {l = a} :: no type of a
a = fun x => {l = a 1, m = a true} :: no type of a
a = fun x => b x ; b = fun x => {l = a 1, m = a true} :: no type of a
a = fun x => {p = b 1, q = b true} ; b = fun x => {l = a x | {}}.l :: no type of a
a = b 1 ; b = a :: no type of a
a = 1 ; b = c ; c = {l = b} ; d = 1 2 :: no type of b
b = d true ; d = fun x => x + 1 :: no type of b
a = 1 2 ; b = 3 4 :: no type of a
b = a 1 ; a = 1 2 :: no type of a
c = b ; b = c 1 ; a = 1 2 :: no type of c
c = a ; b = 1 true ; a = 1 2 :: no type of b
c = a ; a = 1 2 ; b = 1 true :: no type of a
"""

# Edits, each of a new book, with the reason of the refusal: the first one of several.
REASONS = """
f1 = 1 :: no name f1
A = 1 :: no name A
abcdefg = 1 :: no name abcdefg
let = 1 :: no name let
true = 1 :: no name true
in = ( :: no name in
a = ( :: no expression of a
a = :: no expression of a
a = 1 2) :: no expression of a
a = fun 1 => 2 :: no expression of a
a = 01 :: no expression of a
a = x1 :: a uses x
a = ( ; b1 = 1 :: no expression of a
b1 = 1 ; a = ( :: no name b1
a = 1 ; a = 2 :: a is defined twice
a = 1 ; a = 1 :: a is defined twice
a = 1 ; a = ( :: no expression of a
a = 1 ; a = 2 ; b1 = 3 :: a is defined twice
a = 1 ; b1 = 3 ; a = 2 :: no name b1
a = z ; a = 2 :: a is defined twice
a = 1 ; b = 2 ; c = 3 ; d = 4 ; e = 5 ; f = 6 ; g = 7 :: too many definitions
a = z ; b = 2 ; c = 3 ; d = 4 ; e = 5 ; f = 6 ; g = 7 :: too many definitions
a = 1 2 ; b = 2 ; c = 3 ; d = 4 ; e = fun a => b ; f = 6 ; g = 7 ; h = 8 :: too many definitions
a = z :: a uses z
a = y z :: a uses y
a = fun y => {l = y, m = z, n = w} :: a uses z
a = let z = z in z :: a uses z
a = 1 2 ; b = z :: b uses z
a = b ; b = c ; c = z ; d = w :: c uses z
a = fun a => 1 :: a brings a
a = fun b => 1 ; b = 1 :: a brings b
a = rec b x => 1 ; b = 1 :: a brings b
a = rec x b => 1 ; b = 1 :: a brings b
a = rec b c => 1 ; c = 1 ; b = 1 :: a brings b
a = rec c b => 1 ; c = 1 ; b = 1 :: a brings c
a = let b = 1 in 2 ; b = 1 :: a brings b
a = fun x => let c = fun b => 1 in 2 ; b = 1 ; c = 2 :: a brings c
a = {l = fun b => b | {m = fun c => c}} ; b = 1 ; c = 2 :: a brings b
a = let x = fun c => c in fun b => b ; b = 1 ; c = 2 :: a brings c
a = fun b => z ; b = 1 :: a uses z
a = fun b => 1 ; b = z :: a brings b
a = 1 2 ; b = fun a => 1 :: b brings a
a = 1 2 ; b = 3 ; c = fun x => fun b => x :: c brings b
a = fun b => b b ; b = 1 :: a brings b
"""

# Expressions in the book of RUNNING, their types and what they come to.
ASKED = """
3 :: number :: value 0 3
id 3 :: number :: value 2 3
id id :: a -> a :: value 3 fun x => x
{l = id 1, m = id true} :: {l: number, m: truth} :: value 4 {l = 1, m = true}
even 4 :: truth :: value 24 true
odd 4 :: truth :: value 24 false
point.y + 1 :: number :: value 3 3
{x = even | point}.x 1 :: truth :: value 11 false
sum 3 :: number :: value 22 6
fun q => {l = q | point} :: a -> {l: a, x: number, y: number} :: value 0 fun q => {l = q | point}
loop 1 :: a :: more 50 loop 1
loop :: a -> b :: value 1 fun x => loop x
let q = id in {l = q 1, m = q {}} :: {l: number, m: {}} :: value 4 {l = 1, m = {}}
1 2 :: none :: stuck 0 1 2
id 1 2 :: none :: stuck 2 1 2
if id 1 then 2 else 3 :: none :: stuck 2 if 1 then 2 else 3
point.z :: none :: stuck 1 {x = 1, y = 2}.z
0 - sum 1 :: number :: overflow 10 0 - 1
"""

RUNNING = (("id", "fun x => x"), ("even", EVEN), ("point", "{x = 1, y = 2}"), ("odd", ODD),
           ("sum", "fun n => if n == 0 then 0 else n + sum (n - 1)"), ("loop", "fun x => loop x"))


def rows(table):
    lines = table.replace("\\\n", "").replace("\\\\", "\\").strip().splitlines()
    return [[part.strip() for part in line.split("::")] for line in lines]


def pairs_of(text):
    found = []
    for part in text.split(";"):
        name, _, expression = part.partition("=")
        found.append((name.strip(), expression.strip()))
    return tuple(found)


def made(*edits):
    """A book behind these edits: texts of definitions, "- name", "undo"."""
    book = Book()
    for edit in edits:
        given(book, edit)
    return book


def given(book, edit):
    if edit == "undo":
        return book.undo()
    if edit.startswith("-"):
        return book.remove(edit[1:].strip())
    return book.define(pairs_of(edit))


def reason(book, edit):
    """Why the edit is refused, None if it is not."""
    try:
        given(book, edit)
    except BadEdit as why:
        return why.reason
    return None


def state(book):
    """All that a book tells of itself."""
    types = [(name, book.type_of(name)) for name, _ in book.definitions()]
    return book.definitions(), types, book.rings(), book.journal()


def told_types(book):
    return ", ".join([name + ": " + type_text(book.type_of(name)) for name, _ in book.definitions()])


class Types(unittest.TestCase):
    def test_types(self):
        for text, wanted in rows(TYPES):
            self.assertEqual(told_types(made(text)), wanted, text)

    def test_no_types(self):
        for text, wanted in rows(NO_TYPES):
            self.assertEqual(reason(Book(), text), wanted, text)

    def test_any_order_and_any_edits(self):
        source = random.Random(51)
        for text, wanted in rows(TYPES):
            parts = text.split(" ; ")
            for _ in range(3):
                source.shuffle(parts)
                found = told_types(made(" ; ".join(parts)))
                self.assertEqual(sorted(self.split(found)), sorted(self.split(wanted)), text)

    def split(self, types):
        """The types of definitions, cut where no bracket is open."""
        found, depth = [""], 0
        for sign in types:
            depth += (sign in "{(") - (sign in ")}")
            if sign == "," and depth == 0:
                found.append("")
            else:
                found[-1] += sign
        return [part.strip() for part in found]

    def test_each_told_by_itself(self):
        book = made("a = fun x => fun y => b x y ; b = fun x => fun y => if true then y else (a x y)")
        self.assertEqual(book.type_of("a"), parse_type("a -> b -> b"))
        self.assertEqual(book.type_of("b"), parse_type("a -> b -> b"))
        book = made("b = fun r => {z = r.y, a = r.x}")
        self.assertEqual(book.type_of("b"), parse_type("{x: a, y: b | c} -> {a: a, z: b}"))

    def test_one_fixed_type_within_a_ring(self):
        self.assertEqual(reason(Book(), "a = fun x => x ; b = {l = a 1, m = a true}"), None)
        # The same names in a ring have one type each.
        self.assertEqual(reason(Book(), "a = fun x => if true then x else b.l ; b = {l = a 1, m = a true}"), "no type of a")
        self.assertEqual(reason(Book(), "a = fun x => if true then x else b.l ; b = {l = a 1, m = a 2}"), None)
        book = made("a = fun x => fun y => c x y ; c = fun x => fun y => if true then x else a x y")
        book.define((("d", "{l = a 1 true, m = c true 1}"),))
        self.assertEqual(told_types(book), "a: a -> b -> a, c: a -> b -> a, d: {l: number, m: truth}")
        # Behind the ring its names have many types; within it none of them may ask for more than the others.
        self.assertEqual(reason(book, "c = fun x => fun y => if true then x else a x 1"), "no type of d")
        self.assertEqual(reason(book, "c = fun x => fun y => a y x"), "no type of d")
        given(book, "- d")
        self.assertEqual(given(book, "c = fun x => fun y => a y x"), ["a", "c"])
        self.assertEqual(told_types(book), "a: a -> a -> b, c: a -> a -> b")

    def test_lets_within_rings(self):
        # What hangs on a name of the ring is fixed within a let, too.
        self.assertEqual(reason(Book(), "a = fun x => let g = b in {l = g 1, m = g true} ; b = fun x => a x"), "no type of a")
        self.assertEqual(reason(Book(), "a = fun x => let g = fun y => y in {l = g 1, m = g true, n = b} ; b = 1 + a.l"),
                         "no type of a")
        book = made("a = fun x => let g = fun y => y in {l = g 1, m = g true} ; b = fun x => (a x).l")
        self.assertEqual(told_types(book), "a: a -> {l: number, m: truth}, b: a -> number")

    def test_type_of_a_name_that_there_is_not(self):
        for book in (Book(), made("a = 1"), made("a = 1 ; b = 1", "- b")):
            with self.assertRaises(BadArgument) as caught:
                book.type_of("b")
            self.assertEqual(caught.exception.reason, "name")
        book = made("a = 1", "b = 2", "undo")
        with self.assertRaises(BadArgument):
            book.type_of("b")

    def test_types_of_200_and_201_symbols(self):
        # A function with many arguments has two symbols for each of them.
        many = "fun x => " * 23
        book = made("a = " + many + "1", "b = " + many + "a", "c = " + many + "b", "d = " + many + "c")
        self.assertEqual(symbols(book.type_of("d")), 2 * 92 + 1)
        self.assertIsNone(reason(book, "e = " + "fun x => " * 7 + "d"))
        self.assertEqual(symbols(book.type_of("e")), 199)
        self.assertEqual(reason(book, "f = " + "fun x => " * 8 + "d"), "f is too large")
        self.assertEqual(reason(book, "f = {l = e}"), "f is too large")
        self.assertEqual(reason(book, "f = fun x => e"), "f is too large")
        self.assertEqual(reason(book, "f = e"), None)
        # The last one takes a record with a field, its variable and an end.
        book = made("a = " + "fun x => " * 20 + "fun r => r.l", "b = " + many + "a", "c = " + many + "b", "d = " + many + "c")
        self.assertEqual(symbols(book.type_of("d")), 2 * 89 + 6)
        self.assertIsNone(reason(book, "e = " + "fun x => " * 8 + "d"))
        self.assertEqual(symbols(book.type_of("e")), 200)
        self.assertEqual(reason(book, "e = " + "fun x => " * 9 + "d"), "e is too large")
        self.assertEqual(symbols(book.type_of("e")), 200)


class Refusals(unittest.TestCase):
    def test_reasons(self):
        for text, wanted in rows(REASONS):
            book = Book()
            self.assertEqual(reason(book, text), wanted, text)
            self.assertEqual(state(book), state(Book()), text)

    def test_reasons_in_a_book(self):
        book = made("a = 1 ; b = fun x => x ; c = b a")
        ahead = state(book)
        for edit, wanted in (("d = e", "d uses e"), ("d = fun a => 1", "d brings a"), ("x = 1", "b brings x"),
                             ("x = y", "b brings x"), ("a = y", "a uses y"), ("b = 1", "no type of c"),
                             ("a = 1 2", "no type of a"), ("a = 1 ; b = 1 2", "no type of b"),
                             ("b = fun y => y ; x = 1 2", "no type of x"), ("d = 1 ; e = 1 ; f = 1 ; g = 1", "too many definitions"),
                             ("d = 1 ; d = 1", "d is defined twice"), ("a = 1 ; a = 1", "a is defined twice"),
                             ("- d", "unknown definition d"), ("- x", "unknown definition x"), ("- ", "unknown definition "),
                             ("- a", "c uses a"), ("- b", "c uses b"), ("a = c ; b = 1 2", "no type of b")):
            self.assertEqual(reason(book, edit), wanted, edit)
            self.assertEqual(state(book), ahead, edit)
            # What was refused is no edit that could be undone.
            self.assertEqual(book.undo(), [])
            self.assertEqual(book.definitions(), ())
            book = made("a = 1 ; b = fun x => x ; c = b a")

    def test_in_the_order_of_the_book(self):
        book = made("a = 1 ; b = 2")
        self.assertEqual(reason(book, "b = y ; a = z"), "a uses z")
        self.assertEqual(reason(book, "c = y ; b = z"), "b uses z")
        self.assertEqual(reason(book, "d = y ; c = z"), "d uses y")
        self.assertEqual(reason(book, "c = 1 2 ; b = 3 4"), "no type of b")
        self.assertEqual(reason(book, "b = 1 2 ; a = b"), "no type of b")
        self.assertEqual(reason(book, "c = b 1 ; b = c"), "no type of b")

    def test_six_and_seven(self):
        book = made("a = 1 ; b = 1 ; c = 1 ; d = 1 ; e = 1 ; f = 1")
        self.assertEqual(len(book.definitions()), 6)
        self.assertEqual(reason(book, "g = 1"), "too many definitions")
        self.assertIsNone(reason(book, "f = 2 ; a = 3"))
        self.assertEqual(reason(book, "f = 2 ; g = 3"), "too many definitions")
        self.assertIsNone(reason(book, "- c"))
        self.assertIsNone(reason(book, "g = 1"))
        self.assertEqual(reason(book, "h = 1"), "too many definitions")

    def test_texts_of_600_and_601_characters_and_24_and_25_nodes(self):
        book = Book()
        self.assertEqual(book.define((("a", "1" + " " * 599),)), ["a"])
        for text in ("1" + " " * 600, "fun x => " * 24 + "1"):
            with self.assertRaises(BadEdit) as caught:
                book.define((("a", text),))
            self.assertEqual(caught.exception.reason, "no expression of a")
        self.assertEqual(book.define((("a", "fun x => " * 23 + "1"),)), ["a"])

    def test_too_large(self):
        large = "let d = fun x => {l = x, m = x} in d (d (d (d (d (d 1)))))"
        self.assertEqual(reason(Book(), "a = " + large), "a is too large")
        self.assertEqual(reason(Book(), "a = " + large + " ; b = 1 2"), "a is too large")
        self.assertEqual(reason(Book(), "b = 1 2 ; a = " + large), "no type of b")
        self.assertEqual(reason(Book(), "b = 1 ; a = " + large + " ; c = a"), "a is too large")
        self.assertEqual(reason(Book(), "c = a ; a = " + large), "a is too large")
        # Both of a ring are too large, or its second one alone.
        ring = "c = if true then a else b ; a = c ; b = if true then a else (" + large + ")"
        self.assertEqual(reason(Book(), ring), "c is too large")
        ring = "b = fun x => {l = c, m = d (d (d (d (d (d 1)))))} ; d = fun x => {l = x, m = x} ; c = (b 1).m.l.l.l + 1"
        self.assertEqual(reason(Book(), ring), "no type of b")
        ring = "b = fun x => {l = c, m = d (d (d (d (d (d 1)))))} ; d = fun x => {l = x, m = x} ; c = fun x => (b 1).m.l.l"
        self.assertEqual(reason(Book(), ring), "b is too large")
        ring = "c = fun x => (b 1).m.l.l ; b = fun x => {l = c, m = d (d (d (d (d (d 1)))))} ; d = fun x => {l = x, m = x}"
        self.assertEqual(reason(Book(), ring), "b is too large")
        ring = "c = fun x => if true then b x else c x ; b = fun x => if true then d (d (d (d (d (d 1))))) else c 1 ; " \
               "d = fun x => {l = x, m = x}"
        self.assertEqual(reason(Book(), ring), "c is too large")

    def test_a_small_type_of_what_has_larger_parts(self):
        # What is not specified: it is taken by its own type.
        book = made("d = fun x => {l = x, m = x} ; a = (d (d (d (d (d (d 1)))))).l.l")
        self.assertEqual(type_text(book.type_of("a"))[:8], "{l: {l: ")

    def test_undo(self):
        self.assertEqual(reason(Book(), "undo"), "no edit")
        self.assertEqual(reason(made("a = 1", "undo"), "undo"), "no edit")
        self.assertEqual(reason(made("a = 1", "- a", "undo", "undo"), "undo"), "no edit")


class Edits(unittest.TestCase):
    def names(self, book):
        return "".join([name for name, _ in book.definitions()])

    def test_places(self):
        book = made("b = 1 ; a = 2")
        self.assertEqual(self.names(book), "ba")
        book.define((("d", "1"), ("a", "3"), ("c", "4"), ("b", "5")))
        self.assertEqual(book.definitions(), (("b", ("number", 5)), ("a", ("number", 3)), ("d", ("number", 1)),
                                              ("c", ("number", 4))))
        book.remove("a")
        self.assertEqual(self.names(book), "bdc")
        book.define((("a", "1"),))
        self.assertEqual(self.names(book), "bdca")
        book.undo()
        book.undo()
        self.assertEqual(self.names(book), "badc")
        book.undo()
        self.assertEqual(book.definitions(), (("b", ("number", 1)), ("a", ("number", 2))))

    def test_undo_of_each_kind(self):
        book = made("a = 1", "b = a")
        first = state(book)[:3]
        book.define((("a", "true"), ("c", "2")))
        second = state(book)[:3]
        book.remove("b")
        third = state(book)[:3]
        self.assertEqual(book.undo(), ["b"])
        self.assertEqual(state(book)[:3], second)
        self.assertEqual(book.undo(), ["a", "b"])
        self.assertEqual(state(book)[:3], first)
        book.define((("a", "true"), ("c", "2")))
        book.remove("b")
        self.assertEqual(state(book)[:3], third)
        self.assertEqual([book.undo() for _ in range(4)], [["b"], ["a", "b"], [], []])
        self.assertEqual(state(book)[:3], state(Book())[:3])
        self.assertEqual(reason(book, "undo"), "no edit")

    def test_undo_behind_an_undo(self):
        book = made("a = 1", "b = 2", "c = 3", "undo")
        self.assertEqual(self.names(book), "ab")
        given(book, "d = 4")
        self.assertEqual([given(book, "undo"), self.names(book)], [[], "ab"])
        self.assertEqual([given(book, "undo"), self.names(book)], [[], "a"])
        self.assertEqual([given(book, "undo"), self.names(book)], [[], ""])
        self.assertEqual(reason(book, "undo"), "no edit")

    def test_refused_edits_are_not_undone(self):
        book = made("a = 1", "b = 2")
        for edit in ("c = 1 2", "- z", "b1 = 1", "a = z"):
            self.assertIsNotNone(reason(book, edit))
        book.undo()
        self.assertEqual(self.names(book), "a")

    def test_edits_that_change_nothing_are_undone(self):
        book = made("a = 1", "b = 2", "a = 1")
        self.assertEqual(book.undo(), [])
        self.assertEqual(self.names(book), "ab")
        book.undo()
        self.assertEqual(self.names(book), "a")

    def test_touched(self):
        book = Book()
        self.assertEqual(given(book, "c = fun x => b x ; b = fun x => a ; a = 1 ; d = 2"), ["c", "b", "a", "d"])
        self.assertEqual(given(book, "a = 2"), ["c", "b", "a"])
        self.assertEqual(given(book, "b = fun y => a"), ["c", "b"])
        self.assertEqual(given(book, "d = 3 ; b = fun y => {l = a}"), ["c", "b", "d"])
        self.assertEqual(given(book, "e = a ; c = fun x => b x"), ["e"])
        self.assertEqual(given(book, "a = 1 + 1 ; f = 1"), ["c", "b", "a", "e", "f"])
        self.assertEqual(given(book, "d = 3"), [])
        self.assertEqual(given(book, "d = (3)"), [])
        self.assertEqual(given(book, "d = 3 ; a = (1 + (1)) ; c = fun x=>b(x)"), [])
        self.assertEqual(given(book, "- f"), [])
        self.assertEqual(given(book, "undo"), ["f"])
        self.assertEqual(given(book, "undo"), [])
        self.assertEqual(given(book, "undo"), [])
        self.assertEqual(given(book, "undo"), [])
        self.assertEqual(given(book, "undo"), ["c", "b", "a", "e"])

    def test_touched_in_rings(self):
        book = made("a = fun x => b x ; b = fun x => c x ; c = fun x => a x ; d = a ; e = 1 ; f = e")
        self.assertEqual(given(book, "c = fun y => a y"), ["a", "b", "c", "d"])
        self.assertEqual(given(book, "d = b"), ["d"])
        self.assertEqual(given(book, "c = fun y => e"), ["a", "b", "c", "d"])
        self.assertEqual(given(book, "e = 2"), ["a", "b", "c", "d", "e", "f"])
        self.assertEqual(given(book, "a = fun y => b y"), ["a"])
        self.assertEqual(book.rings(), [("e",), ("c",), ("b",), ("a",), ("d",), ("f",)])
        self.assertEqual(given(book, "undo"), ["a"])
        self.assertEqual(given(book, "undo"), ["a", "b", "c", "d", "e", "f"])
        self.assertEqual(given(book, "undo"), ["a", "b", "c", "d"])

    def test_orders(self):
        for text, wanted in (("a = 1", "a"), ("a = b ; b = 1", "b a"), ("a = 1 ; b = 1 ; c = 1", "a b c"),
                             ("a = c ; b = 1 ; c = 1", "b c a"), ("a = d ; b = c ; c = 1 ; d = 1", "c b d a"),
                             ("a = b ; b = c ; c = d ; d = 1", "d c b a"), ("a = a ; b = a", "a b"),
                             ("a = fun x => b x ; b = fun x => a x", "ab"), ("a = 1 ; b = c ; c = b ; d = 1", "a bc d"),
                             ("a = fun x => d x ; b = 1 ; c = b ; d = fun x => a x", "ad b c"),
                             ("a = c ; b = fun x => f x ; c = 1 ; d = b ; e = 1 ; f = fun x => {l = b x, m = e}.l",
                              "c a e bf d"),
                             ("a = fun x => c x ; b = fun x => a x ; c = fun x => a x", "ac b"),
                             ("f = fun x => c x ; a = fun x => f x ; c = fun x => a x ; b = 1", "fac b"),
                             ("a = fun x => b x ; b = fun x => {l = a x, m = d}.l ; c = fun x => d x ; d = fun x => c x",
                              "cd ab")):
            book = made(text)
            self.assertEqual(book.rings(), [tuple(group) for group in wanted.split()], text)

    def test_orders_behind_edits(self):
        book = made("a = 1", "b = a", "c = b", "a = 2")
        self.assertEqual(book.rings(), [("a",), ("b",), ("c",)])
        given(book, "a = c")
        self.assertEqual(book.rings(), [("a", "b", "c")])
        given(book, "b = 1 ; d = 1")
        self.assertEqual(book.rings(), [("b",), ("c",), ("a",), ("d",)])
        given(book, "- a")
        self.assertEqual(book.rings(), [("b",), ("c",), ("d",)])
        given(book, "undo")
        given(book, "undo")
        self.assertEqual(book.rings(), [("a", "b", "c")])


class Questions(unittest.TestCase):
    def test_types_and_runs(self):
        book = Book()
        book.define(RUNNING)
        for text, wanted, came_to in rows(ASKED):
            found = book.ask(text)
            self.assertEqual("none" if found is None else type_text(found), wanted, text)
            kind, made_steps, behind = came_to.split(" ", 2)
            found = book.run(text, 50)
            self.assertEqual((found[0], expression_text(found[2])), (kind, behind), text)
            self.assertEqual(found[1], int(made_steps), text)

    def test_told_form(self):
        book = made("a = fun x => fun y => y")
        self.assertEqual(book.ask("{z = a, b = a 1}"), parse_type("{b: a -> a, z: b -> c -> c}"))
        self.assertEqual(book.ask("a"), parse_type("a -> b -> b"))
        self.assertIsNone(book.ask("a + 1"))
        self.assertEqual(Book().ask("fun x => x"), parse_type("a -> a"))

    def test_bad_texts(self):
        book = made("a = 1")
        for text, token, why in (("", 1, "unexpected end"), ("a b)", 3, "unexpected token"), ("z (", 3, "unexpected end"),
                                 ("1" + " " * 600, 0, "text too long"), ("fun x => " * 24 + "1", 0, "too many nodes")):
            for asked in (lambda: book.ask(text), lambda: book.run(text, 9)):
                with self.assertRaises(BadText) as caught:
                    asked()
                self.assertEqual((caught.exception.token, caught.exception.reason), (token, why), text)

    def test_bad_arguments(self):
        book = made("a = 1 ; b = a")
        for text, wanted in (("z", "name"), ("a z", "name"), ("fun x => y", "name"), ("fun a => 1", "brings"),
                             ("rec a x => 1", "brings"), ("rec x b => 1", "brings"), ("let b = 1 in 2", "brings"),
                             ("{l = fun b => b}", "brings"), ("fun a => z", "name"), ("1 2 (fun a => a)", "brings"),
                             ("z 1 2", "name"), ("let x = x in x", "name"), ("let a = a in a", "brings")):
            for asked in (lambda: book.ask(text), lambda: book.run(text, 9)):
                with self.assertRaises(BadArgument) as caught:
                    asked()
                self.assertEqual(caught.exception.reason, wanted, text)
        with self.assertRaises(BadArgument):
            Book().ask("a")
        self.assertEqual(made("a = 1", "- a").ask("fun a => a"), parse_type("a -> a"))

    def test_too_large(self):
        book = made("d = fun x => {l = x, m = x}")
        for text in ("d (d (d (d (d (d 1)))))", "fun x => d (d (d (d (d (d x)))))"):
            with self.assertRaises(TooLarge):
                book.ask(text)
        # 5 symbols more than the double: 5, 13, 29, 61, 125.
        self.assertEqual(symbols(book.ask("d (d (d (d (d 1))))")), 125)
        self.assertIsNone(book.ask("d (d (d (d (d (d 1))))) 2"))
        self.assertEqual(book.run("(d (d (d (d (d (d 1)))))).l.l.l.l.l.l", 99)[::2], ("value", ("number", 1)))

    def test_examples(self):
        book = Book()
        self.assertEqual(book.define((("even", EVEN), ("odd", ODD))), ["even", "odd"])
        self.assertEqual(book.define((("id", "fun x => x"),)), ["id"])
        self.assertEqual(type_text(book.type_of("odd")), "number -> truth")
        self.assertEqual(book.rings(), [("even", "odd"), ("id",)])
        self.assertEqual(book.run("id even 3", 99)[2], ("truth", False))
        self.assertEqual(type_text(book.ask("id {a = id}")), "{a: a -> a}")

    def test_what_is_returned_can_be_changed(self):
        book = made("a = fun x => b x ; b = fun x => a x ; c = 1")
        ahead = state(book)
        for found in (book.rings(), book.define((("c", "1"),)), book.undo()):
            found.append("z")
            found.clear()
        self.assertEqual(state(book)[:3], ahead[:3])
        self.assertEqual(book.define((("a", "fun y => b y"),)), ["a", "b"])

    def test_books_apart(self):
        one, other = made("a = 1"), made("a = true", "b = 2")
        given(one, "c = 3")
        self.assertEqual([told_types(one), told_types(other)], ["a: number, c: number", "a: truth, b: number"])
        self.assertEqual(other.journal(), "define a = true\ndefine b = 2\n")

    def test_arguments_stay(self):
        book = Book()
        pairs = (("a", "fun x=>x"), ("b", "a a"))
        ahead = copy.deepcopy(pairs)
        book.define(pairs)
        self.assertEqual(pairs, ahead)


class AgainstTheNaive(unittest.TestCase):
    """Random edits of a book, compared with one that works out all anew."""

    def some_text(self, source, names):
        size = source.choice([1, 1, 2, 3, 4, 5, 6, 8])
        known = list(names) * 2 + (["z"] if source.random() < 0.05 else [])
        others = "xyf" if source.random() < 0.93 else "xya"
        kind = source.random()
        if kind < 0.1 and known:
            return f"fun x => {source.choice(known)} x"
        if kind < 0.2 and known:
            return f"{{l = {source.choice(known)}, m = fun x => {source.choice(known)} x}}"
        if kind < 0.23:
            return "(" if kind < 0.22 else "let d = fun x => {l = x, m = x} in d (d (d (d (d (d 1)))))"
        return expression_text(some_expression(source, size, known, others))

    def some_edit(self, source, names):
        """The name of a method, and its arguments."""
        kind = source.random()
        pool = "abcdeghi"
        if kind < 0.15:
            return ("undo",)
        if kind < 0.27:
            return "remove", source.choice(list(names) + ["z", ""] if names else ["z"])
        chosen = [source.choice(pool) for _ in range(source.choice([1, 1, 1, 2, 2, 3]))]
        if source.random() < 0.9:
            chosen = list(dict.fromkeys(chosen))
        known = list(dict.fromkeys(list(names) + chosen))
        if source.random() < 0.15:
            chosen = source.sample(pool, source.choice([2, 2, 3]))
            return "define", tuple([(name, self.link(source, chosen[at - 1], known)) for at, name in enumerate(chosen)])
        pairs = [(name if source.random() < 0.99 else "A", self.some_text(source, known)) for name in chosen]
        return "define", tuple(pairs)

    def link(self, source, name, known):
        """A text that uses the name, so that a ring can come of it."""
        forms = [f"fun x => {name} x", f"fun x => if true then x else {name} x", f"fun x => {{l = x, m = {name}}}",
                 f"fun x => ({name} x).l", f"fun x => let y = {name} in {source.choice(known)}", name,
                 f"{{l = 1, m = fun x => {name}.l + x}}"]
        return source.choice(forms)

    def told(self, book, edit, error):
        try:
            return getattr(book, edit[0])(*edit[1:])
        except error as why:
            return why.reason if error == BadEdit else str(why)

    def test_edits(self):
        source = random.Random(52)
        reasons = {}
        rings = 0
        for _ in range(120):
            book, naive = Book(), NaiveBook()
            for _ in range(25):
                edit = self.some_edit(source, [name for name, _ in book.definitions()])
                wanted, found = self.told(naive, edit, Refused), self.told(book, edit, BadEdit)
                self.assertEqual(found, wanted, (edit, naive.lines))
                if isinstance(wanted, str):
                    words = [word for word in wanted.split(" ") if len(word) > 1]
                    reasons[" ".join(words)] = reasons.get(" ".join(words), 0) + 1
                self.assertEqual(book.definitions(), tuple(naive.pairs))
                self.assertEqual(book.rings(), naive.order)
                self.assertEqual({name: book.type_of(name) for name, _ in naive.pairs}, naive.types)
                self.assertEqual(book.journal(), "".join([line + "\n" for line in naive.lines]))
                rings += len([ring for ring in naive.order if len(ring) > 1])
            self.assertEqual(state(replay(book.journal())), state(book))
        self.assertGreater(rings, 100)
        self.assertEqual(sorted(reasons), ["brings", "is defined twice", "is too large", "no edit", "no expression of",
                                           "no name", "no type of", "too many definitions", "unknown definition", "uses"])

    def test_questions(self):
        source = random.Random(53)
        answers = {True: 0, False: 0}
        for _ in range(60):
            book = Book()
            for _ in range(8):
                self.told(book, self.some_edit(source, [name for name, _ in book.definitions()]), BadEdit)
            names = [name for name, _ in book.definitions()]
            known = {name: book.type_of(name) for name in names}
            for _ in range(20):
                expression = some_expression(source, source.randint(1, 12), names)
                if all(name in names for name in free_names(expression)) and len(nodes(expression)) <= 24:
                    wanted = types_of_ring(("ask",), {"ask": expression}, known)
                    if wanted is None or symbols(wanted["ask"]) < 100:
                        found = book.ask(expression_text(expression))
                        self.assertEqual(found, None if wanted is None else wanted["ask"], expression)
                        answers[wanted is None] += 1
        self.assertGreater(min(answers.values()), 100)

    def test_without_definitions(self):
        source = random.Random(54)
        book = Book()
        for _ in range(300):
            expression = some_expression(source, source.randint(1, 12), [], "xy")
            if not free_names(expression) and len(nodes(expression)) <= 24:
                types = typed(expression, ())
                self.assertEqual(book.ask(expression_text(expression)), None if types is None else types[0])


class Safety(unittest.TestCase):
    """What has a type in a book never gets stuck there, and each step keeps its types (r4)."""

    BOOKS = (RUNNING, (("a", "fun x => b x"), ("b", "fun x => if true then x else a x"), ("p", "{l = 1, m = a}")),
             (("s", "fun r => r.l"), ("e", "fun r => {l = true | r}"), ("d", "fun r => r\\l"), ("q", "{l = 1, m = {l = s}}")))

    def follow(self, expression, pairs, known, most):
        """How many steps were made."""
        ahead = typed_in(expression, (), known)
        for made_steps in range(most):
            found = step(expression, pairs)
            self.assertNotEqual(found[0], "stuck", expression)
            if found[0] != "next":
                return made_steps
            behind = typed_in(found[1], (), known)
            self.assertIsNotNone(behind, expression)
            self.assertTrue(is_instance(ahead[0], behind[0]), expression)
            expression, ahead = found[1], behind
        return most

    def test_some_programs(self):
        source = random.Random(55)
        steps = 0
        for definitions in self.BOOKS:
            book = Book()
            book.define(definitions)
            names = [name for name, _ in definitions]
            known = tuple([(name, book.type_of(name)) for name in names])
            for _ in range(1500):
                expression = some_expression(source, source.randint(2, 12), names * 2)
                if all(name in names for name in free_names(expression)) and len(nodes(expression)) <= 24:
                    if book.ask(expression_text(expression)) is not None:
                        self.assertNotEqual(book.run(expression_text(expression), 40)[0], "stuck")
                        steps += self.follow(expression, book.definitions(), known, 25)
        self.assertGreater(steps, 800)


if __name__ == "__main__":
    unittest.main()
