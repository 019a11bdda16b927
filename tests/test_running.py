import copy
import random
import unittest

from rowtypes.errors import TooLarge
from rowtypes.expressions import children, nodes
from rowtypes.instances import is_instance
from rowtypes.reading import parse_expression
from rowtypes.running import is_value, put_in, run, step
from rowtypes.typings import typed, typed_in
from rowtypes.typetext import parse_type
from tests.helpers import some_expression

VALUES = """
0
999999
true
false
fun x => x
fun x => 1 2
fun x => y
rec f x => f x
rec f f => (1 + 2).a
{}
{a = 1}
{a = 1, a = true}
{a = {b = fun x => 1 + 2}, b = {}}
{a = rec f x => 1 2 | {b = 3}}
"""

NO_VALUES = """
x
1 2
(fun x => x) 1
let x = 1 in x
let x = 1 in fun y => y
if true then 1 else 2
1 + 2
2 - 1
1 < 2
1 == 2
{a = 1 + 2}
{a = x}
{a = 1 | 2}
{a = 1 | true}
{a = 1 | fun x => x}
{a = 1 | {b = 2 | 3}}
{a = {b = 1 | 2}}
{a = 1 | {b = 1 + 2}}
{a = 1 | r}
{a = 1 | r\\b}
{a = 1}.a
{a = 1}\\a
"""

# An expression, a name, what is put in for it, and the expression behind that.
PUT_IN = """
x :: x :: 1 :: 1
y :: x :: 1 :: y
x x :: x :: fun y => y :: (fun y => y) (fun y => y)
x y :: y :: x :: x x
fun x => x :: x :: 1 :: fun x => x
fun y => x :: x :: 1 :: fun y => 1
fun y => fun x => x y :: x :: 1 :: fun y => fun x => x y
(fun x => x) x :: x :: 1 :: (fun x => x) 1
rec x y => x y :: x :: 1 :: rec x y => x y
rec y x => x y :: x :: 1 :: rec y x => x y
rec x x => x y :: x :: 1 :: rec x x => x y
rec f y => f x y :: x :: 1 :: rec f y => f 1 y
let x = x in x :: x :: 1 :: let x = 1 in x
let x = x + y in x + y :: x :: 1 :: let x = 1 + y in x + y
let y = x in x + y :: x :: 1 :: let y = 1 in 1 + y
let x = let x = x in x in x :: x :: 1 :: let x = let x = 1 in x in x
let y = (fun x => x) x in x :: x :: 1 :: let y = (fun x => x) 1 in 1
if x then x else x :: x :: true :: if true then true else true
x + x - x :: x :: 2 :: 2 + 2 - 2
x < x :: x :: 2 :: 2 < 2
{x = x | x} :: x :: {} :: {x = {}}
{a = fun x => x, b = x} :: x :: 1 :: {a = fun x => x, b = 1}
x.x :: x :: {x = 1} :: {x = 1}.x
x\\x :: x :: {x = 1} :: {x = 1}\\x
1 :: x :: 2 :: 1
{} :: x :: 2 :: {}
fun y => x :: x :: y :: fun y => y
fun y => x :: x :: x + 1 :: fun y => x + 1
"""

# What step tells: the expression behind it, or in capitals what it comes to.
STEPS = """
1 :: VALUE
{a = 1, b = true} :: VALUE
fun x => 1 2 :: VALUE

x :: STUCK unbound name
x 1 :: STUCK unbound name
x y :: STUCK unbound name
1 x :: STUCK unbound name
fun x => x :: VALUE
p :: 5
id :: fun z => z
p + q :: 5 + q
5 + q :: 5 + p
q :: p
id q :: (fun z => z) q
(fun z => z) q :: (fun z => z) p
w :: STUCK unbound name
bad :: 1 2
if p then 1 else 2 :: if 5 then 1 else 2

(fun x => x) 1 :: 1
(fun x => x + x) 1 :: 1 + 1
(fun x => 7) {a = 1} :: 7
(fun x => y) 1 :: y
(fun x => fun x => x) 1 :: fun x => x
(fun x => fun y => x) 1 :: fun y => 1
(fun x => fun y => x) (fun v => y) :: fun y => fun v => y
(fun x => x x) (fun x => x x) :: (fun x => x x) (fun x => x x)
(rec f x => x) 1 :: 1
(rec f x => f x) 1 :: (rec f x => f x) 1
(rec f x => fun y => f y) 1 :: fun y => (rec f x => fun y => f y) y
(rec f x => fun f => f x) 1 :: fun f => f 1
(rec f x => let f = f in f x) 1 :: let f = rec f x => let f = f in f x in f 1
(rec f x => {a = f, b = x}) 1 :: {a = rec f x => {a = f, b = x}, b = 1}
(rec f f => f) 1 :: 1
(rec f f => f + f) 1 :: 1 + 1
(rec f x => x) (fun y => f) :: fun y => f
(rec f x => fun y => x f) (fun z => f) :: fun y => (fun z => f) (rec f x => fun y => x f)
1 2 :: STUCK not a function
true 2 :: STUCK not a function
{} 2 :: STUCK not a function
{a = fun x => x} 2 :: STUCK not a function
(1 + 2) (3 + 4) :: 3 (3 + 4)
3 (3 + 4) :: 3 7
(fun x => x) (3 + 4) :: (fun x => x) 7
(1 2) (3 + 4) :: STUCK not a function
(fun x => x) (1 2) :: STUCK not a function
1 (if 2 then 3 else 4) :: STUCK not a truth
(if 2 then 3 else 4) 1 :: STUCK not a truth

let x = 1 in x + x :: 1 + 1
let x = 1 + 2 in x + x :: let x = 3 in x + x
let x = fun y => y in x x :: (fun y => y) (fun y => y)
let x = 1 in let x = x in x :: let x = 1 in x
let x = 1 in let x = 2 in x :: let x = 2 in x
let x = 1 in fun x => x :: fun x => x
let x = 1 in rec x y => x :: rec x y => x
let x = 1 in rec y x => x :: rec y x => x
let x = x in 1 :: STUCK unbound name
let x = 1 2 in 3 :: STUCK not a function
let x = 3 in 1 2 :: 1 2

if true then 1 2 else 3 :: 1 2
if false then 1 2 else 3 :: 3
if 1 < 2 then 3 else 4 :: if true then 3 else 4
if 1 then 2 else 3 :: STUCK not a truth
if {} then 2 else 3 :: STUCK not a truth
if fun x => x then 2 else 3 :: STUCK not a truth
if 1 2 then 1 + 2 else 3 :: STUCK not a function

1 + 2 :: 3
2 - 1 :: 1
1 - 1 :: 0
1 < 2 :: true
2 < 2 :: false
3 < 2 :: false
2 == 2 :: true
1 == 2 :: false
1 + 2 + 3 :: 3 + 3
1 + (2 + 3) :: 1 + 5
1 + 2 + (3 + 4) :: 3 + (3 + 4)
3 + (3 + 4) :: 3 + 7
true + 1 :: STUCK not a number
1 + true :: STUCK not a number
true - 1 :: STUCK not a number
1 - {} :: STUCK not a number
true < 1 :: STUCK not a number
1 < (fun x => x) :: STUCK not a number
true == true :: STUCK not a number
{} == 1 :: STUCK not a number
1 == {} :: STUCK not a number
true + (1 + 2) :: true + 3
true + (1 2) :: STUCK not a function
1 - 2 + true :: OVERFLOW
true + (1 - 2) :: OVERFLOW
999999 + 0 :: 999999
999998 + 1 :: 999999
999999 + 1 :: OVERFLOW
999999 + 999999 :: OVERFLOW
500000 + 500000 :: OVERFLOW
0 - 0 :: 0
999999 - 999999 :: 0
0 - 1 :: OVERFLOW
0 - 999999 :: OVERFLOW
{a = 999999 + 1, b = 1 2} :: OVERFLOW

{a = 1 + 2} :: {a = 3}
{a = 1 + 2, b = 3 + 4} :: {a = 3, b = 3 + 4}
{a = 3, b = 3 + 4} :: {a = 3, b = 7}
{a = 1 | 2} :: STUCK not a record
{a = 1 | true} :: STUCK not a record
{a = 1 | fun x => x} :: STUCK not a record
{a = 1 2 | 3} :: STUCK not a function
{a = 1 + 2 | 3} :: {a = 3 | 3}
{a = 1 | 1 + 2} :: {a = 1 | 3}
{a = 1, b = 2 | 3} :: STUCK not a record
{a = {b = 1 | 2}, c = 1 2} :: STUCK not a record
{a = 1 | {a = 2}\\a} :: {a = 1}
{a = 1 | (fun x => x) {b = 2}} :: {a = 1, b = 2}

{a = 1}.a :: 1
{a = 1, a = true}.a :: 1
{b = 1, a = 2, a = true}.a :: 2
{a = fun x => 1 2}.a :: fun x => 1 2
{a = 1 + 2}.a :: {a = 3}.a
{a = 1, b = 1 + 2}.a :: {a = 1, b = 3}.a
{a = {a = 1}}.a.a :: {a = 1}.a
{}.a :: STUCK no such field
{b = 1}.a :: STUCK no such field
{b = {a = 1}}.a :: STUCK no such field
1.a :: STUCK not a record
true.a :: STUCK not a record
(fun x => x).a :: STUCK not a record
{a = 1 | 2}.a :: STUCK not a record
(1 2).a :: STUCK not a function

{a = 1}\\a :: {}
{a = 1, a = true}\\a :: {a = true}
{b = 1, a = 2, c = 3, a = true}\\a :: {b = 1, c = 3, a = true}
{a = 1, b = 2}\\b :: {a = 1}
{b = 1, c = 2, a = 3, d = 4}\\a :: {b = 1, c = 2, d = 4}
{b = 1, c = 2, a = 3}.a :: 3
{a = 1 + 2}\\a :: {a = 3}\\a
{a = 1, a = 2}\\a\\a :: {a = 2}\\a
{}\\a :: STUCK no such field
{b = 1, c = 2}\\a :: STUCK no such field
1\\a :: STUCK not a record
true\\a :: STUCK not a record
(rec f x => x)\\a :: STUCK not a record
(1 2)\\a :: STUCK not a function
"""

BOOK = (("p", ("number", 5)), ("id", parse_expression("fun z => z")), ("q", ("name", "p")),
        ("bad", parse_expression("1 2")), ("even", parse_expression("fun n => if n == 0 then true else odd (n - 1)")),
        ("odd", parse_expression("fun n => if n == 0 then false else even (n - 1)")))

# An expression, what it comes to, with how many steps, and what is behind them.
RUNS = """
7 :: value 0 :: 7
1 + 2 :: value 1 :: 3
(fun r => r.x + 1) {x = 2, y = true} :: value 3 :: 3
let x = 1 + 2 in x + x :: value 3 :: 6
if 1 then 2 else 3 :: stuck 0 :: if 1 then 2 else 3
(fun x => x 1) 2 :: stuck 1 :: 2 1
1 + (2 - 3) :: overflow 0 :: 1 + (2 - 3)
1 + 2 - 4 :: overflow 1 :: 3 - 4
id (1 + p) :: value 4 :: 6
id even 2 :: value 16 :: true
even 1 :: value 9 :: false
w + 1 :: stuck 0 :: w + 1
p + w :: stuck 1 :: 5 + w
(rec f n => f (n + 1)) 0 :: more 100 :: (rec f n => f (n + 1)) 50
(rec f n => if n == 0 then 0 else n + f (n - 1)) 3 :: value 18 :: 6
"""

# Closed expressions that have a type, and some whose names have the types below.
WITH_TYPES = """
(rec f n => if n == 0 then 0 else n + f (n - 1)) 3
let k = fun x => fun y => x in {a = k 1 true, b = k {} 2}
(rec f n => if n < 2 then n else f (n - 1) + f (n - 2)) 4
let set = fun v => fun r => {x = v | r\\x} in set true {y = 1, x = 2}
let i = fun x => x in i i (i {a = i}).a
fun r => {a = 1 | r}
(fun r => {a = r.a + 1 | r\\a}) {b = true, a = 1, a = {}}
(fun r => r\\a.b) {b = true, a = 1, b = {}}
(rec f x => f x) {}
(rec f x => f {a = x.a | x\\a}) {a = 1}
(fun f => fun x => f (f x)) (fun x => x + x) 5
999999 + (if true then 1 else 2)
let c = fun f => fun g => fun x => f (g x) in c (fun x => x + 1) (fun r => r.a) {a = 1}
(rec f n => fun r => if n == 0 then r else f (n - 1) {a = n | r\\a}) 3 {a = 0}
let p = fun x => {l = x, r = x} in p (p (fun z => z))
id {a = id p | {b = even q}}
if even 3 then id p else p - 6
"""
GIVEN = (("p", parse_type("number")), ("q", parse_type("number")), ("id", parse_type("a -> a")),
         ("even", parse_type("number -> truth")), ("odd", parse_type("number -> truth")))


def rows(table):
    """The rows of a table, each the list of what stands between its double colons."""
    return [[part.strip() for part in line.replace("\\\\", "\\").split("::")] for line in table.splitlines() if line]


def plus(many, last):
    """A sum with so many nodes more than the last one has."""
    for _ in range(many // 2):
        last = ("op", "+", last, ("number", 1))
    return last


def fields(many, last):
    """A record with two nodes more for each field."""
    for _ in range(many):
        last = ("extend", "a", ("number", 1), last)
    return last


class Stop(Exception):
    pass


def plain_value(node):
    """Whether it is a value, as r1 says it."""
    if node[0] == "extend":
        return plain_value(node[2]) and plain_value(node[3]) and node[3][0] in ("empty", "extend")
    return node[0] in ("number", "truth", "fun", "rec", "empty")


def plain_put(node, images):
    """The expression with all images put in at once."""
    if node[0] == "name":
        return images.get(node[1], node)
    if node[0] == "let":
        inner = {name: image for name, image in images.items() if name != node[1]}
        return ("let", node[1], plain_put(node[2], images), plain_put(node[3], inner))
    brought = node[1:-1] if node[0] in ("fun", "rec") else ()
    inner = {name: image for name, image in images.items() if name not in brought}
    return tuple([plain_put(part, inner) if isinstance(part, tuple) else part for part in node])


def plain_fields(record):
    if record[0] == "empty":
        return []
    if record[0] != "extend":
        raise Stop("stuck", "not a record")
    return [(record[1], record[2])] + plain_fields(record[3])


def plain_own_step(node, book):
    """The step at the node itself, as the table of r2 says it."""
    kind = node[0]
    if kind == "name":
        if node[1] not in dict(book):
            raise Stop("stuck", "unbound name")
        return dict(book)[node[1]]
    if kind == "call":
        function, argument = node[1:]
        if function[0] not in ("fun", "rec"):
            raise Stop("stuck", "not a function")
        images = {function[1]: function} if function[0] == "rec" else {}
        return plain_put(function[-1], {**images, function[-2]: argument})
    if kind == "let":
        return plain_put(node[3], {node[1]: node[2]})
    if kind == "if":
        if node[1][0] != "truth":
            raise Stop("stuck", "not a truth")
        return node[2] if node[1][1] else node[3]
    if kind == "op":
        return plain_sign(node)
    found = plain_fields(node[3] if kind == "extend" else node[2])
    labels = [label for label, _ in found]
    if node[1] not in labels:
        raise Stop("stuck", "no such field")
    at = labels.index(node[1])
    if kind == "select":
        return found[at][1]
    rest = ("empty",)
    for label, value in reversed(found[:at] + found[at + 1:]):
        rest = ("extend", label, value, rest)
    return rest


def plain_sign(node):
    if node[2][0] != "number" or node[3][0] != "number":
        raise Stop("stuck", "not a number")
    one, other = node[2][1], node[3][1]
    if node[1] in ("<", "=="):
        return ("truth", one < other if node[1] == "<" else one == other)
    result = one + other if node[1] == "+" else one - other
    if not 0 <= result <= 999999:
        raise Stop("overflow")
    return ("number", result)


def plain_step(node, book):
    """The expression behind one step of one that is no value."""
    inner = list(children(node))
    needed = {"call": 2, "let": 1, "if": 1, "op": 2, "extend": 2, "select": 1, "drop": 1}.get(node[0], 0)
    for at in range(needed):
        if not plain_value(inner[at]):
            inner[at] = plain_step(inner[at], book)
            return node[:len(node) - len(inner)] + tuple(inner)
    return plain_own_step(node, book)


def plainly(expression, book):
    """What step tells."""
    if plain_value(expression):
        return ("value",)
    if len(nodes(expression)) > 300:
        return ("large",)
    try:
        return ("next", plain_step(expression, book))
    except Stop as why:
        return why.args


class Values(unittest.TestCase):
    def test_values(self):
        for [text] in rows(VALUES):
            self.assertIs(is_value(parse_expression(text)), True, text)

    def test_no_values(self):
        for [text] in rows(NO_VALUES):
            self.assertIs(is_value(parse_expression(text)), False, text)

    def test_deep_values(self):
        self.assertIs(is_value(fields(3000, ("empty",))), True)
        self.assertIs(is_value(fields(3000, ("number", 1))), False)
        self.assertIs(is_value(("extend", "a", fields(3000, ("name", "x")), ("empty",))), False)


class PutIn(unittest.TestCase):
    def test_each_place(self):
        for text, name, given, wanted in rows(PUT_IN):
            found = put_in(parse_expression(text), name, parse_expression(given))
            self.assertEqual(found, parse_expression(wanted), (text, name, given))

    def test_deep(self):
        found = put_in(plus(6000, ("name", "x")), "x", ("number", 2))
        self.assertEqual([len(nodes(found)), nodes(found)[3000]], [6001, ("number", 2)])

    def test_arguments_stay(self):
        expression, given = parse_expression("let x = x in {a = x | x}"), parse_expression("{a = 1}")
        ahead = copy.deepcopy((expression, given))
        put_in(expression, "x", given)
        self.assertEqual((expression, given), ahead)


class Steps(unittest.TestCase):
    def test_each_row(self):
        for text, wanted in rows(STEPS):
            expression = parse_expression(text)
            found = step(expression, BOOK)
            if wanted[:5] in ("VALUE", "OVERF"):
                self.assertEqual(found, (wanted.lower(),), text)
            elif wanted.startswith("STUCK"):
                self.assertEqual(found, ("stuck", wanted[6:]), text)
            else:
                self.assertEqual(found, ("next", parse_expression(wanted)), text)

    def test_without_a_book(self):
        for text in ("p", "id 1", "1 + p"):
            self.assertEqual(step(parse_expression(text), ()), ("stuck", "unbound name"))
        self.assertEqual(step(parse_expression("(fun p => p) 1"), ()), ("next", ("number", 1)))

    def test_a_definition_is_put_in_as_it_is(self):
        book = (("a", parse_expression("b 1")), ("b", parse_expression("fun x => a")))
        self.assertEqual(step(("name", "a"), book), ("next", parse_expression("b 1")))
        self.assertEqual(step(parse_expression("b 1"), book), ("next", parse_expression("(fun x => a) 1")))

    def test_signs_beyond_the_bounds_of_texts(self):
        # Only a sum above and a difference below are an overflow.
        self.assertEqual(step(("op", "-", ("number", 1000002), ("number", 1)), ()), ("next", ("number", 1000001)))
        self.assertEqual(step(("op", "+", ("number", 1000000), ("number", 0)), ()), ("overflow",))
        self.assertEqual(step(("op", "<", ("number", 999999), ("number", 1000000)), ()), ("next", ("truth", True)))

    def test_by_the_book(self):
        source = random.Random(5)
        kinds = {}
        for _ in range(3000):
            expression = some_expression(source, source.randint(1, 22), ["p", "id", "even"], "xyf")
            for _ in range(12):
                wanted = plainly(expression, BOOK)
                self.assertEqual(step(expression, BOOK), wanted, expression)
                kinds[wanted if wanted[0] == "stuck" else wanted[0]] = True
                if wanted[0] != "next":
                    break
                expression = wanted[1]
        self.assertEqual(len(kinds), 9, list(kinds))

    def test_arguments_stay(self):
        for text in ("(fun x => {a = x, b = p}) {c = 1}", "{a = 1, b = 2}\\b", "1 + (p + 2)"):
            expression, book = parse_expression(text), copy.deepcopy(BOOK)
            step(expression, book)
            run(expression, book, 9)
            self.assertEqual((expression, book), (parse_expression(text), BOOK))


class Large(unittest.TestCase):
    def test_300_and_301_nodes(self):
        exact = ("call", ("fun", "x", ("name", "x")), plus(296, ("number", 1)))
        self.assertEqual(len(nodes(exact)), 300)
        self.assertEqual(step(exact, ())[0], "next")
        self.assertEqual(step(plus(300, ("number", 1)), ()), ("large",))
        self.assertEqual(step(plus(298, ("number", 1)), ())[0], "next")
        self.assertEqual(step(("fun", "x", plus(300, ("number", 1))), ()), ("value",))

    def test_values_are_never_large(self):
        value = fields(300, ("empty",))
        self.assertEqual([len(nodes(value)), step(value, ())], [601, ("value",)])
        self.assertEqual(run(value, (), 5), ("value", 0, value))
        self.assertEqual(step(("select", "a", value), ()), ("large",))

    def test_what_would_be_stuck(self):
        self.assertEqual(step(("call", ("number", 1), fields(148, ("empty",))), ()), ("stuck", "not a function"))
        for wrong in (("call", ("number", 1), fields(150, ("empty",))), fields(150, ("number", 1)),
                      ("select", "b", fields(150, ("empty",))), ("if", ("number", 1), fields(150, ("empty",)), ("empty",)),
                      ("call", ("name", "w"), fields(150, ("empty",))), ("op", "-", ("number", 0), plus(300, ("number", 1)))):
            self.assertEqual(step(wrong, ()), ("large",))

    def test_the_size_of_the_whole_counts(self):
        small = ("op", "+", ("number", 1), ("number", 2))
        self.assertEqual(step(("if", small, fields(149, ("empty",)), ("empty",)), ()), ("large",))
        self.assertEqual(step(("if", ("truth", True), fields(148, ("empty",)), ("empty",)), ())[0], "next")

    def test_getting_large(self):
        grows = parse_expression("(rec f n => 1 + f n) 0")
        kind, made, behind = run(grows, (), 1000)
        # Eight nodes at first, and two more with each step.
        self.assertEqual([kind, made, len(nodes(behind)), len(nodes(grows))], ["large", 147, 302, 8])
        self.assertEqual(run(grows, (), made)[:2], ("large", made))
        self.assertEqual(run(grows, (), made - 1)[:2], ("more", made - 1))


class Runs(unittest.TestCase):
    def test_what_it_comes_to(self):
        for text, wanted, behind in rows(RUNS):
            kind, made = wanted.split()
            found = run(parse_expression(text), BOOK, 100)
            self.assertEqual(found, (kind, int(made), parse_expression(behind)), text)

    def test_examples(self):
        self.assertEqual(run(parse_expression("(fun r => r.x + 1) {x = 2, y = true}"), (), 100),
                         ("value", 3, ("number", 3)))
        self.assertEqual(run(parse_expression("if 1 then 2 else 3"), (), 100)[0], "stuck")
        self.assertEqual(run(parse_expression("(rec f n => f (n + 1)) 0"), (), 9)[:2], ("more", 9))

    def test_no_steps(self):
        for text, wanted in (("1 + 2", "more"), ("3", "value"), ("1 2", "stuck"), ("0 - 1", "overflow")):
            self.assertEqual(run(parse_expression(text), (), 0), (wanted, 0, parse_expression(text)))
        large = plus(300, ("number", 1))
        self.assertEqual(run(large, (), 0), ("large", 0, large))

    def test_the_last_step_that_is_allowed(self):
        for text, wanted, behind in rows(RUNS):
            kind, made = wanted.split()
            if kind != "more":
                found = run(parse_expression(text), BOOK, int(made))
                self.assertEqual(found, (kind, int(made), parse_expression(behind)), text)
                if int(made) > 0:
                    self.assertEqual(run(parse_expression(text), BOOK, int(made) - 1)[:2], ("more", int(made) - 1))

    def test_going_on(self):
        for text, _, _ in rows(RUNS):
            expression = parse_expression(text)
            kind, made, behind = run(expression, BOOK, 60)
            for many in range(min(made, 20) + 1):
                _, first, middle = run(expression, BOOK, many)
                self.assertEqual(first, many)
                self.assertEqual(run(middle, BOOK, 60 - many), (kind, made - many, behind))

    def test_many_steps(self):
        expression = parse_expression("(rec f n => if n == 0 then true else f (n - 1)) 2000")
        self.assertEqual(run(expression, (), 99999), ("value", 8003, ("truth", True)))


class Types(unittest.TestCase):
    """What has a type never gets stuck, and each step keeps its types (r4)."""

    def follow(self, expression, most, book=(), given=()):
        """How many steps were made; the types of all expressions on the way are compared."""
        for made in range(most):
            try:
                ahead = typed_in(expression, (), given)
            except TooLarge:
                return made
            found = step(expression, book)
            self.assertNotEqual(found[0], "stuck", expression)
            if found[0] != "next":
                return made
            try:
                behind = typed_in(found[1], (), given)
            except TooLarge:
                return made
            self.assertIsNotNone(behind, expression)
            self.assertTrue(is_instance(ahead[0], behind[0]), expression)
            expression = found[1]
        return most

    def test_some_programs(self):
        steps = 0
        for [text] in rows(WITH_TYPES):
            self.assertIsNotNone(typed_in(parse_expression(text), (), GIVEN), text)
            steps += self.follow(parse_expression(text), 60, BOOK, GIVEN)
        self.assertGreater(steps, 250)

    def test_a_step_can_tell_more_types(self):
        expression = parse_expression("if true then fun x => x else fun x => x + 1")
        self.assertEqual(typed(expression, ())[0], parse_type("number -> number"))
        self.assertEqual(typed(step(expression, ())[1], ())[0], parse_type("a -> a"))

    def test_all_kinds_of_expressions(self):
        source = random.Random(8)
        steps = 0
        for _ in range(6000):
            expression = some_expression(source, source.randint(3, 20), ["p", "id", "even"])
            try:
                found = typed_in(expression, (), GIVEN)
            except TooLarge:
                found = None
            if found is not None:
                steps += self.follow(expression, 20, BOOK, GIVEN)
        self.assertGreater(steps, 500)


if __name__ == "__main__":
    unittest.main()
