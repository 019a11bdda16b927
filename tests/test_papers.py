import copy
import random
import unittest

from rowtypes.errors import BadPaper, RowError, TooLarge
from rowtypes.expressions import nodes
from rowtypes.instances import is_instance
from rowtypes.papers import check_paper, make_paper
from rowtypes.reading import parse_expression
from rowtypes.types import substitute, symbols, variables
from rowtypes.typetext import parse_type
from rowtypes.typings import typed
from tests.helpers import some_expression, some_lets
from tests.naive_papers import first_wrong

# An expression, the types of a paper, and the node that is told; "right" where none is.
NUMBERS_AND_NAMES = """
1 :: number :: right
1 :: truth :: 0
1 :: a :: 0
1 :: number -> number :: 0
1 :: {} :: 0
true :: truth :: right
false :: truth :: right
true :: number :: 0
true :: a :: 0
x :: number :: 0
x :: x :: 0
fun x => y :: a -> b ; b :: 1
fun x => x :: a -> a ; a :: right
fun x => x :: number -> number ; number :: right
fun x => x :: {b: a, a: b | c} -> {a: b, b: a | c} ; {a: b, b: a | c} :: right
fun x => x :: {a: b, a: a | c} -> {a: a, a: b | c} ; {a: a, a: b | c} :: 1
fun x => x :: a -> b ; b :: 1
fun x => x :: number -> a ; a :: 1
fun x => x :: a -> number ; number :: 1
fun x => x :: {| a} -> {} ; {} :: 1
fun x => x :: {} -> {| a} ; {| a} :: 1
fun x => x :: {| a} -> {| b} ; {| b} :: 1
fun x => fun x => x :: a -> b -> b ; b -> b ; b :: right
fun x => fun x => x :: a -> b -> a ; b -> a ; a :: 2
"""

FUNCTIONS = """
fun x => 1 :: a -> number ; number :: right
fun x => 1 :: {l: truth} -> number ; number :: right
fun x => 1 :: number ; number :: 0
fun x => 1 :: a ; number :: 0
fun x => 1 :: {} ; number :: 0
fun x => 1 :: a -> truth ; number :: 0
fun x => 1 :: a -> a ; number :: 0
fun x => 1 :: number -> a -> number ; number :: 0
fun x => x :: a -> a ; b :: 0
fun x => {l = x, m = 1} :: a -> {m: number, l: a} ; {l: a, m: number} ; a ; {m: number} ; number ; {} :: right
rec f x => 1 :: a -> number ; number :: right
rec f x => 1 :: number ; number :: 0
rec f x => 1 :: a -> truth ; number :: 0
rec f x => x :: a -> a ; a :: right
rec f x => x :: a -> b ; b :: 1
rec f x => f x :: a -> b ; b ; a -> b ; a :: right
rec f x => f x :: number -> truth ; truth ; number -> truth ; number :: right
rec f x => f x :: a -> b ; b ; c -> b ; c :: 2
rec f x => f x :: a -> b ; b ; number -> b ; number :: 2
rec f x => f 1 :: a -> b ; b ; number -> b ; number :: 2
rec f x => f x :: a -> b ; b ; a -> b ; c :: 1
rec f f => f :: a -> a ; a :: right
rec f f => f :: a -> b ; b :: 1
rec f f => f 1 :: (number -> a) -> a ; a ; number -> a ; number :: right
rec f f => f 1 :: number -> a ; a ; number -> a ; number :: 2
(fun x => x) 1 :: number ; number -> number ; number ; number :: right
(fun x => x) 1 :: a ; number -> number ; number ; number :: 0
(fun x => x) 1 :: truth ; truth -> truth ; truth ; number :: 0
(fun x => 1) {} :: number ; {} -> number ; number ; {} :: right
(fun x => 1) {} :: number ; {| a} -> number ; number ; {} :: 0
1 2 :: a ; number ; number :: 0
1 2 :: number ; number -> number ; number :: 1
(fun x => x) {a = 1, b = 2} :: {a: number, b: number} ; {b: number, a: number} -> {b: number, a: number} ; \
{a: number, b: number} ; {a: number, b: number} ; number ; {b: number} ; number ; {} :: right
"""

PLAIN = """
if true then 1 else 2 :: number ; truth ; number ; number :: right
if true then 1 else 2 :: truth ; truth ; number ; number :: 0
if true then 1 else true :: number ; truth ; number ; truth :: 0
if true then 1 else true :: truth ; truth ; number ; truth :: 0
if 1 then 2 else 3 :: number ; number ; number ; number :: 0
if 1 then 2 else 3 :: number ; truth ; number ; number :: 1
if true then {a = 1 | {b = 2}} else {b = 3 | {a = 4}} :: {a: number, b: number} ; truth ; {b: number, a: number} ; \
number ; {b: number} ; number ; {} ; {b: number, a: number} ; number ; {a: number} ; number ; {} :: right
1 + 2 :: number ; number ; number :: right
1 - 2 :: number ; number ; number :: right
1 < 2 :: truth ; number ; number :: right
1 == 2 :: truth ; number ; number :: right
1 + 2 :: truth ; number ; number :: 0
1 - 2 :: truth ; number ; number :: 0
1 < 2 :: number ; number ; number :: 0
1 == 2 :: number ; number ; number :: 0
1 == 2 :: a ; number ; number :: 0
true + 2 :: number ; truth ; number :: 0
1 + true :: number ; number ; truth :: 0
true < 2 :: truth ; truth ; number :: 0
1 == true :: truth ; number ; truth :: 0
true == true :: truth ; truth ; truth :: 0
"""

RECORDS = """
{} :: {} :: right
{} :: {| a} :: 0
{} :: {a: number} :: 0
{} :: a :: 0
{a = 1} :: {a: number} ; number ; {} :: right
{a = 1} :: {a: truth} ; number ; {} :: 0
{a = 1} :: {b: number} ; number ; {} :: 0
{a = 1} :: {a: number | b} ; number ; {} :: 0
{a = 1} :: {a: number, b: number} ; number ; {} :: 0
{a = 1} :: {} ; number ; {} :: 0
{a = 1} :: number ; number ; {} :: 0
{a = 1 | 2} :: {a: number} ; number ; number :: 0
{a = 1 | 2} :: number ; number ; number :: 0
{a = 1 | {b = true}} :: {b: truth, a: number} ; number ; {b: truth} ; truth ; {} :: right
{a = 1 | {a = true}} :: {a: number, a: truth} ; number ; {a: truth} ; truth ; {} :: right
{a = 1 | {a = true}} :: {a: truth, a: number} ; number ; {a: truth} ; truth ; {} :: 0
fun r => {a = 1 | r} :: {b: a | c} -> {b: a, a: number | c} ; {a: number, b: a | c} ; number ; {b: a | c} :: right
fun r => {a = 1 | r} :: {| c} -> {a: number | d} ; {a: number | d} ; number ; {| c} :: 1
fun r => r.a :: {a: a | b} -> a ; a ; {a: a | b} :: right
fun r => r.a :: {a: a} -> a ; a ; {a: a} :: right
fun r => r.a :: {b: c, a: a | b} -> a ; a ; {a: a, b: c | b} :: right
fun r => r.a :: {a: a, a: d | b} -> d ; d ; {a: a, a: d | b} :: 1
fun r => r.a :: {a: a, a: d | b} -> a ; a ; {a: a, a: d | b} :: right
fun r => r.a :: {a: a | b} -> number ; number ; {a: a | b} :: 1
fun r => r.a :: {b: a | c} -> a ; a ; {b: a | c} :: 1
fun r => r.a :: {| b} -> a ; a ; {| b} :: 1
fun r => r.a :: {} -> a ; a ; {} :: 1
fun r => r.a :: b -> a ; a ; b :: 1
fun r => r.a :: (a -> a) -> a ; a ; a -> a :: 1
fun r => r.a :: {a: {m: b, l: c}} -> {l: c, m: b} ; {m: b, l: c} ; {a: {l: c, m: b}} :: right
fun r => r\\a :: {a: a | b} -> {| b} ; {| b} ; {a: a | b} :: right
fun r => r\\a :: {a: a} -> {} ; {} ; {a: a} :: right
fun r => r\\a :: {b: c, a: a, d: d | b} -> {d: d, b: c | b} ; {b: c, d: d | b} ; {a: a, b: c, d: d | b} :: right
fun r => r\\a :: {a: a, a: d | b} -> {a: d | b} ; {a: d | b} ; {a: a, a: d | b} :: right
fun r => r\\a :: {a: a, a: d | b} -> {a: a | b} ; {a: a | b} ; {a: a, a: d | b} :: 1
fun r => r\\a :: {a: a, c: d} -> {a: a} ; {a: a} ; {a: a, c: d} :: 1
fun r => r\\a :: {a: a | b} -> {} ; {} ; {a: a | b} :: 1
fun r => r\\a :: {a: a | b} -> a ; a ; {a: a | b} :: 1
fun r => r\\a :: {| b} -> {| b} ; {| b} ; {| b} :: 1
fun r => r\\a :: b -> {} ; {} ; b :: 1
"""

LETS = """
let x = 1 in 2 :: number ; number ; number :: right
let x = 1 in 2 :: truth ; number ; number :: 0
let x = 1 in 2 :: a ; number ; number :: 0
let x = 1 in x :: number ; number ; number :: right
let x = 1 in x :: truth ; number ; truth :: 2
let x = x in 2 :: number ; a ; number :: 1
let i = fun x => x in i i :: a -> a ; b -> b ; b ; a -> a ; (a -> a) -> a -> a ; a -> a :: right
let i = fun x => x in i i :: a -> a ; a -> a ; a ; a -> a ; (a -> a) -> a -> a ; a -> a :: right
let i = fun x => x in i i :: a -> a ; number -> number ; number ; a -> a ; (a -> a) -> a -> a ; a -> a :: 4
let i = fun x => x in i 1 :: number ; a -> a ; a ; number ; number -> number ; number :: right
let i = fun x => x in i 1 :: truth ; a -> a ; a ; truth ; number -> truth ; number :: 4
let i = fun x => x in i :: number -> truth ; a -> a ; a ; number -> truth :: 3
let i = fun x => x in i :: {| b} -> {| b} ; a -> a ; a ; {| b} -> {| b} :: right
let i = fun x => 1 in i :: {| b} -> number ; a -> number ; number ; {| b} -> number :: right
let i = fun x => 1 in i :: b -> truth ; a -> number ; number ; b -> truth :: 3
let e = {} in e :: {| a} ; {} ; {| a} :: 2
let s = fun r => r.a in s :: {b: d, a: c} -> c ; {a: a | b} -> a ; a ; {a: a | b} ; {b: d, a: c} -> c :: right
let s = fun r => r.a in s :: {a: c, a: d} -> c ; {a: a | b} -> a ; a ; {a: a | b} ; {a: c, a: d} -> c :: right
let s = fun r => r.a in s :: {a: c, a: d} -> d ; {a: a | b} -> a ; a ; {a: a | b} ; {a: c, a: d} -> d :: 4
let s = fun r => r.a in s :: {b: c} -> c ; {a: a | b} -> a ; a ; {a: a | b} ; {b: c} -> c :: 4
let s = fun r => r.a in s :: {a: c | r} -> c ; {a: a} -> a ; a ; {a: a} ; {a: c | r} -> c :: 4
let s = fun r => r\\a in s :: {a: c, b: d | e} -> {b: d | e} ; {a: a | b} -> {| b} ; {| b} ; {a: a | b} ; \
{a: c, b: d | e} -> {b: d | e} :: right
let s = fun r => r\\a in s :: {a: c, b: d | e} -> {| e} ; {a: a | b} -> {| b} ; {| b} ; {a: a | b} ; \
{a: c, b: d | e} -> {| e} :: 4
let x = 1 in let x = true in x :: truth ; number ; truth ; truth ; truth :: right
let x = 1 in let x = true in x :: number ; number ; number ; truth ; number :: 4
"""

FIXED = """
fun y => let x = y in x :: a -> a ; a ; a ; a :: right
fun y => let x = y in x :: number -> number ; number ; number ; number :: right
fun y => let x = y in x :: a -> b ; b ; a ; b :: 3
fun y => let x = y in x :: a -> number ; number ; a ; number :: 3
fun y => let x = y in x :: {| a} -> {| b} ; {| b} ; {| a} ; {| b} :: 3
fun y => let x = y in x :: {| a} -> {| a} ; {| a} ; {| a} ; {| a} :: right
fun y => let x = y in x :: {| a} -> {b: number} ; {b: number} ; {| a} ; {b: number} :: 3
fun y => let x = y in x :: {l: b | a} -> {l: b, m: b} ; {l: b, m: b} ; {l: b | a} ; {l: b, m: b} :: 3
fun y => let x = y in x :: {l: b | a} -> {l: c | a} ; {l: c | a} ; {l: b | a} ; {l: c | a} :: 3
fun y => let x = fun z => y in x :: a -> c -> a ; c -> a ; b -> a ; a ; c -> a :: right
fun y => let x = fun z => y in x :: a -> number -> a ; number -> a ; b -> a ; a ; number -> a :: right
fun y => let x = fun z => y in x :: a -> c -> d ; c -> d ; b -> a ; a ; c -> d :: 4
fun y => let x = fun z => y in x :: a -> c -> a ; c -> a ; a -> a ; a ; c -> a :: 4
fun y => let x = fun z => y in x :: a -> a -> a ; a -> a ; a -> a ; a ; a -> a :: right
fun y => let x = fun z => z in x :: a -> c -> c ; c -> c ; b -> b ; b ; c -> c :: right
fun y => let x = fun z => z in x :: a -> c -> c ; c -> c ; a -> a ; a ; c -> c :: 4
fun y => let x = fun z => z in x :: {l: a -> {| b}} -> c -> c ; c -> c ; a -> a ; a ; c -> c :: 4
fun y => let x = fun z => z in x :: a -> c -> c ; c -> c ; {| b} -> {| b} ; {| b} ; c -> c :: 4
fun y => let x = fun z => z in x :: {| a} -> {} -> {} ; {} -> {} ; {| b} -> {| b} ; {| b} ; {} -> {} :: right
fun y => let x = fun z => z in x :: {| a} -> {} -> {} ; {} -> {} ; {| a} -> {| a} ; {| a} ; {} -> {} :: 4
rec f y => let x = fun z => z in x :: a -> c -> c ; c -> c ; c -> c ; c ; c -> c :: right
rec f y => let x = fun z => z in x :: a -> d -> d ; d -> d ; b -> b ; b ; d -> d :: right
rec f y => let x = fun z => z in x :: a -> d -> d ; d -> d ; d -> d ; d ; d -> d :: right
rec f y => let x = fun z => z in x :: a -> d -> d ; d -> d ; a -> a ; a ; d -> d :: 4
rec f y => let x = f in x :: a -> b ; b ; a -> b ; b :: 3
fun y => fun y => let x = fun z => z in x :: a -> b -> c -> c ; b -> c -> c ; c -> c ; a -> a ; a ; c -> c :: right
fun y => fun y => let x = fun z => z in x :: a -> b -> c -> c ; b -> c -> c ; c -> c ; b -> b ; b ; c -> c :: 5
fun y => let x = fun z => y in let w = x in w :: a -> e -> a ; e -> a ; b -> a ; a ; e -> a ; c -> a ; e -> a :: right
fun y => let x = fun z => y in let w = x in w :: a -> e -> a ; e -> a ; b -> a ; a ; e -> a ; b -> a ; e -> a :: right
fun y => let x = fun z => y in let w = x in w :: a -> e -> d ; e -> d ; b -> a ; a ; e -> d ; c -> a ; e -> d :: 6
fun y => let x = fun z => y in fun y => let w = x in w :: a -> d -> e -> a ; d -> e -> a ; b -> a ; a ; \
d -> e -> a ; e -> a ; c -> a ; e -> a :: right
fun y => let x = fun z => y in fun y => let w = x in w :: a -> d -> e -> number ; d -> e -> number ; b -> a ; a ; \
d -> e -> number ; e -> number ; c -> a ; e -> number :: 7
fun y => let x = fun z => y in fun y => let w = fun z => z in w :: a -> d -> e -> e ; d -> e -> e ; b -> a ; a ; \
d -> e -> e ; e -> e ; a -> a ; a ; e -> e :: 8
fun y => let x = fun z => y in fun y => let w = fun z => z in w :: a -> d -> e -> e ; d -> e -> e ; b -> a ; a ; \
d -> e -> e ; e -> e ; b -> b ; b ; e -> e :: right
fun y => let x = y in fun y => let w = y in w :: {| a} -> {| a} -> {| b} ; {| a} -> {| b} ; {| a} ; {| a} -> {| b} ; \
{| b} ; {| a} ; {| b} :: 6
fun y => let x = y in fun y => let w = {} in w :: {| a} -> b -> {} ; b -> {} ; {| a} ; b -> {} ; {} ; {} ; {} :: right
"""

SEVERAL = """
1 + true :: truth ; number ; number :: 0
1 + 2 :: number ; truth ; truth :: 0
1 2 :: number ; truth -> number ; number :: 0
1 2 :: number ; truth -> number ; truth :: 1
fun x => x y :: a -> b ; c ; d ; e :: 0
fun x => x y :: a -> b ; b ; d ; e :: 1
fun x => x y :: a -> b ; b ; d -> b ; d :: 2
fun x => x y :: (d -> b) -> b ; b ; d -> b ; d :: 3
let x = true in x 1 :: a ; b ; c ; d ; e :: 0
let x = true in x 1 :: a ; b ; a ; d ; e :: 1
let x = true in x 1 :: a ; truth ; a ; d ; e :: 2
let x = true in x 1 :: a ; truth ; a ; e -> a ; e :: 3
let x = true in x 1 :: a ; b -> a ; a ; e -> a ; number :: 1
{a = 1 | {b = 2}}.b :: number ; {b: number} ; truth ; {} ; number ; {} :: 1
{a = 1 | {b = 2}}.b :: number ; {b: number, a: truth} ; truth ; {b: number} ; number ; {} :: 2
{a = 1 | {b = 2}}.b :: number ; {b: number, a: number} ; number ; {b: number} ; truth ; {} :: 3
{a = 1 | {b = 2}}.b :: number ; {b: number, a: number} ; number ; {b: number} ; number ; {} :: right
"""

# Expressions whose names a let brings at several types.
USES = """
let i = fun x => x in {a = i 1, b = i true}
let k = fun x => fun y => x in {a = k 1, b = k true {}}
let s = fun r => r.a in {p = s {a = 1}, q = s {b = 2, a = true}}
let e = {f = fun x => x | {}} in {p = e.f 1, q = e.f true}
fun y => let x = fun z => {p = z, q = y} in {a = x 1, b = (x true).q + 1}
fun r => let x = fun s => {a = s.b | r} in {p = x {b = 1}, q = x {b = true, c = 1}}
rec f y => let g = fun z => f in 1 + g 1 1 + g true 2
let a = fun x => let i = fun z => x in i in {p = a 1 2, q = a true 3}
fun y => let a = let b = fun x => y in {l = b 1, m = b true} in a.l + 1
"""


def paper(text):
    return tuple([parse_type(part.strip()) for part in text.split(";")])


def told_node(expression, types):
    """The node with which the paper is refused, "right" if it is not."""
    try:
        wanted = check_paper(expression, types)
    except BadPaper as why:
        return why.node
    return "right" if wanted is None else "something"


def some_type(source, size):
    """A type of about so many symbols, with few variables."""
    if size < 2:
        return source.choice([("number",), ("truth",), ("var", "ka"), ("var", "kb"), ("record", (), None),
                              ("record", (), "ra")])
    if source.random() < 0.5:
        return ("fun", some_type(source, size // 2), some_type(source, size // 2))
    many = source.randint(1, 2)
    fields = [(source.choice("lm"), some_type(source, size // (many + 1))) for _ in range(many)]
    return ("record", tuple(fields), source.choice([None, "ra", "rb"]))


def apart(types):
    """The types with other names for their variables, so that none of a type is one of a row."""
    images = {}
    for given in types:
        kinds, rows = variables(given)
        images.update({name: ("var", "k" + name) for name in kinds})
        images.update({name: ("record", (), "r" + name) for name in rows})
    return tuple([substitute(given, images) for given in types])


def turned(source, given):
    """A type alike, with its fields in another order where there can be one."""
    if given[0] == "fun":
        return ("fun", turned(source, given[1]), turned(source, given[2]))
    if given[0] != "record":
        return given
    left = [(label, turned(source, inner)) for label, inner in given[1]]
    fields = []
    while left:
        label = source.choice(left)[0]
        fields.append(left.pop([name for name, _ in left].index(label)))
    return ("record", tuple(fields), given[2])


def some_images(source, types):
    """A substitution for some variables of the types, which keeps apart those of types and of rows."""
    images = {}
    for given in types:
        kinds, rows = variables(given)
        for name in kinds:
            if source.random() < 0.5:
                images[name] = source.choice([("number",), ("var", "ka"), ("fun", ("var", "ka"), ("var", "kb"))])
        for name in rows:
            if source.random() < 0.5:
                images[name] = source.choice([("record", (), None), ("record", (), "ra"),
                                              ("record", (("l", ("var", "ka")), ("m", ("truth",))), "ra")])
    return images


class EachKind(unittest.TestCase):
    def follow(self, table):
        for line in table.replace("\\\n", "").replace("\\\\", "\\").strip().splitlines():
            text, types, wanted = [part.strip() for part in line.split("::")]
            found = told_node(parse_expression(text), paper(types))
            self.assertEqual(str(found), wanted, line)

    def test_numbers_and_names(self):
        self.follow(NUMBERS_AND_NAMES)

    def test_functions_and_calls(self):
        self.follow(FUNCTIONS)

    def test_ifs_and_signs(self):
        self.follow(PLAIN)

    def test_records(self):
        self.follow(RECORDS)

    def test_lets(self):
        self.follow(LETS)

    def test_variables_that_are_not_free(self):
        self.follow(FIXED)

    def test_the_first_of_several(self):
        self.follow(SEVERAL)

    def test_how_many_types(self):
        for text in ("1", "1 2", "fun x => x", "y"):
            expression = parse_expression(text)
            many = len(nodes(expression))
            for other in range(many + 3):
                if other != many:
                    self.assertIsNone(told_node(expression, (("number",),) * other), (text, other))
        self.assertIsNone(told_node(parse_expression("fun x => x"), paper("a -> a")))
        self.assertIsNone(told_node(parse_expression("fun x => x"), paper("a -> a ; a ; a")))

    def test_deep_types(self):
        deep = ("number",)
        for _ in range(99):
            deep = ("record", (("l", deep),), None)
        self.assertEqual(told_node(parse_expression("fun x => x"), (("fun", deep, deep), deep)), "right")
        other = ("record", (("l", ("fun", deep, deep)),), None)
        self.assertEqual(told_node(parse_expression("fun x => x"), (("fun", deep, other), other)), 1)

    def test_the_error(self):
        with self.assertRaises(RowError) as caught:
            check_paper(parse_expression("1 2"), (("number",),) * 3)
        self.assertEqual(caught.exception.node, 0)


class Told(unittest.TestCase):
    """What is told is a right paper, and what has a right paper has a type (a3)."""

    def test_make_paper(self):
        for text in ("1", "fun x => x", "let i = fun x => x in i i", "rec f n => f (n - 1)"):
            expression = parse_expression(text)
            self.assertEqual(make_paper(expression), typed(expression, ()))
            check_paper(expression, make_paper(expression))
        self.assertEqual(make_paper(parse_expression("fun x => x")), paper("a -> a ; a"))
        for text in ("x", "1 2", "fun x => x x"):
            self.assertIsNone(make_paper(parse_expression(text)))

    def test_too_large(self):
        large = ("number", 1)
        for _ in range(100):
            large = ("fun", "x", large)
        with self.assertRaises(TooLarge):
            make_paper(large)
        with self.assertRaises(TooLarge):
            make_paper(parse_expression("let d = fun x => {l = x, m = x} in d (d (d (d (d (d 1)))))"))
        check_paper(large[2], make_paper(large[2]))

    def test_uses_at_different_types(self):
        for text in USES.strip().splitlines():
            expression = parse_expression(text)
            check_paper(expression, make_paper(expression))

    def test_instances(self):
        source = random.Random(31)
        checked = 0
        while checked < 400:
            expression = some_expression(source, source.randint(2, 14), [])
            # Lets have variables that must stay free.
            if "let" not in [node[0] for node in nodes(expression)] and typed(expression, ()) is not None:
                checked += 1
                told = make_paper(expression)
                images = some_images(source, told)
                given = tuple([turned(source, substitute(inner, images)) for inner in told])
                self.assertEqual(told_node(expression, given), "right", (expression, given))

    def test_renamed_instances_of_lets(self):
        expression = parse_expression("fun y => let x = fun z => {p = z, q = y} in {a = x 1, b = x true}")
        told = make_paper(expression)
        check_paper(expression, told)
        _, fixed, free = [told[at][1] for at in (1, 0, 2)]
        for image in (("number",), ("fun", ("var", "k"), ("var", "k")), ("var", "k")):
            given = tuple([substitute(inner, {fixed[1]: image}) for inner in told])
            self.assertEqual(told_node(expression, given), "right")
        given = tuple([substitute(inner, {free[1]: ("var", "k")}) for inner in told])
        self.assertEqual(told_node(expression, given), "right")
        given = tuple([substitute(inner, {free[1]: ("number",)}) for inner in told])
        # The second use is at another type.
        self.assertEqual(told_node(expression, given), 14)
        given = tuple([substitute(inner, {free[1]: fixed}) for inner in told])
        self.assertEqual(told_node(expression, given), 10)

    def test_all_kinds_of_expressions(self):
        source = random.Random(32)
        found = {True: 0, False: 0}
        for _ in range(3000):
            if source.random() < 0.5:
                expression = some_expression(source, source.randint(1, 16), [])
            else:
                expression = some_lets(source, source.randint(6, 24), [])
            try:
                told = make_paper(expression)
            except TooLarge:
                continue
            if told is not None:
                check_paper(expression, told)
            found[told is None] += 1
        self.assertGreater(min(found.values()), 500)


class AgainstTheNaive(unittest.TestCase):
    def changed(self, source, types):
        """The types with some of them changed."""
        types = list(types)
        for _ in range(source.choice([1, 1, 2])):
            at = source.randrange(len(types))
            if source.random() < 0.4:
                types[at] = source.choice(types)
            elif source.random() < 0.5:
                types[at] = some_type(source, source.randint(1, 5))
            else:
                images = some_images(source, [types[at]])
                types[at] = substitute(types[at], images)
        return tuple(types)

    def changed_below(self, source, expression, types):
        """The types with the same change of all nodes of a part, mostly of the bound expression of a let."""
        parts = nodes(expression)
        starts = [at + 1 for at, node in enumerate(parts) if node[0] == "let"]
        at = source.choice(starts) if starts and source.random() < 0.8 else source.randrange(len(parts))
        behind = at + len(nodes(parts[at]))
        inner = types[at:behind]
        images = some_images(source, inner)
        if source.random() < 0.5:
            inner = self.merged(source, inner)
        return types[:at] + tuple([substitute(given, images) for given in inner]) + types[behind:]

    def merged(self, source, types):
        """The types with some of their variables put together."""
        kinds = [name for given in types for name in variables(given)[0]]
        rows = [name for given in types for name in variables(given)[1]]
        images = {name: ("var", source.choice(kinds)) for name in kinds if source.random() < 0.3}
        images.update({name: ("record", (), source.choice(rows)) for name in rows if source.random() < 0.3})
        return tuple([substitute(given, images) for given in types])

    def test_changed_papers(self):
        source = random.Random(33)
        found = {}
        for _ in range(8000):
            if source.random() < 0.4:
                expression = some_expression(source, source.randint(1, 14), [])
            else:
                expression = some_lets(source, source.randint(5, 20), [])
            try:
                types = make_paper(expression)
            except TooLarge:
                continue
            if types is not None and max([symbols(given) for given in types]) < 60:
                types = apart(types)
                way = source.randrange(3)
                if way == 0:
                    given = self.merged(source, types)
                elif way == 1:
                    given = self.changed(source, types)
                else:
                    given = self.changed_below(source, expression, types)
                given = tuple([turned(source, inner) for inner in given])
                wanted = first_wrong(expression, given)
                self.assertEqual(told_node(expression, given), "right" if wanted is None else wanted,
                                 (expression, given))
                if wanted is None:
                    self.assertTrue(is_instance(given[0], types[0]), (expression, given))
                kind = "right" if wanted is None else nodes(expression)[wanted][0]
                found[kind] = found.get(kind, 0) + 1
        self.assertGreater(found["right"], 300)
        self.assertGreater(found["name"], 50)
        self.assertGreater(len(found), 9)

    def test_papers_of_what_has_no_type(self):
        # No paper for it is right, whatever its types are.
        source = random.Random(34)
        checked = 0
        while checked < 500:
            expression = some_expression(source, source.randint(1, 5), [])
            if typed(expression, ()) is None:
                checked += 1
                for _ in range(10):
                    types = tuple([some_type(source, source.randint(1, 4)) for _ in nodes(expression)])
                    found = told_node(expression, types)
                    self.assertEqual(found, first_wrong(expression, types))
                    self.assertNotEqual(found, "right")

    def test_arguments_stay(self):
        expression = parse_expression("let i = fun x => x in {a = i 1, b = i true}.b")
        types = make_paper(expression)
        wrong = types[:-1] + (("number",),)
        ahead = copy.deepcopy((expression, types, wrong))
        check_paper(expression, types)
        told_node(expression, wrong)
        make_paper(expression)
        self.assertEqual((expression, types, wrong), ahead)


if __name__ == "__main__":
    unittest.main()
