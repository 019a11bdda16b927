import copy
import random
import unittest

from rowtypes.errors import TooLarge
from rowtypes.expressions import nodes
from rowtypes.reading import parse_expression
from rowtypes.types import symbols, variables
from rowtypes.typetext import parse_type, type_text
from rowtypes.typings import typed, typed_in
from tests.helpers import some_expression, some_lets, type_texts
from tests.naive import naive_typing

# Expressions and their types; None where there is none.
RULES = """
0 :: number
7 :: number
true :: truth
false :: truth

x :: none
fun x => y :: none
x + 1 :: none
(fun x => x) x :: none
let x = x in 1 :: none
let x = 1 in y :: none
{a = y} :: none
r.a :: none
rec f x => g :: none
if c then 1 else 2 :: none

fun x => x :: a -> a
fun x => 1 :: a -> number
fun x => fun y => x :: a -> b -> a
fun x => fun y => y :: a -> b -> b
fun x => fun x => x :: a -> b -> b
fun x => fun y => fun x => {p = x, q = y} :: a -> b -> c -> {p: c, q: b}
fun x => x + 1 :: number -> number
fun x => x x :: none
fun x => 1 2 :: none
fun x => {a = x + 1, b = if x then 1 else 2} :: none
fun x => {a = x 1, b = x true} :: none

rec f x => x :: a -> a
rec f x => f x :: a -> b
rec f x => f 1 :: number -> a
rec f n => if n == 0 then true else f (n - 1) :: number -> truth
rec f n => fun m => if n == 0 then m else f (n - 1) m :: number -> a -> a
rec f x => f :: none
rec f x => f + 1 :: none
rec f x => f 1 + f true :: none
rec f x => {a = f 1} :: none
rec f x => if x then f 1 else f 2 :: none
rec f x => fun f => f :: a -> b -> b
rec f x => fun x => f x :: none
rec f f => f :: a -> a
rec f f => f 1 :: (number -> a) -> a
rec f f => f + 1 :: number -> number
rec f f => f f :: none

(fun x => x + 1) 2 :: number
(fun x => x) true :: truth
fun f => fun x => f x :: (a -> b) -> a -> b
fun f => f (f 1) :: (number -> number) -> number
(fun x => x + 1) true :: none
1 2 :: none
true 1 :: none
{} 1 :: none
{a = fun x => x} 1 :: none
(fun x => x x) (fun x => x x) :: none

if true then 1 else 2 :: number
if 1 < 2 then true else false :: truth
fun x => if x then x else x :: truth -> truth
fun x => fun y => fun z => if x then y else z :: truth -> a -> a -> a
if true then {} else {} :: {}
if 1 then 2 else 3 :: none
if true then 1 else true :: none
if true then {} else {a = 1} :: none
if {} then 1 else 2 :: none
if true then 1 2 else 3 :: none
if true then fun x => x else 1 :: none

1 + 2 :: number
1 - 2 :: number
1 < 2 :: truth
1 == 2 :: truth
fun x => x + x :: number -> number
fun x => fun y => x - y :: number -> number -> number
fun x => fun y => x < y :: number -> number -> truth
fun x => fun y => x == y :: number -> number -> truth
true + 1 :: none
1 + true :: none
true - 1 :: none
1 - true :: none
true < 1 :: none
1 < true :: none
true == true :: none
1 == true :: none
{} == {} :: none
(1 < 2) + 3 :: none
if 1 + 2 then 3 else 4 :: none

{} :: {}
{a = 1} :: {a: number}
{b = 1, a = true} :: {a: truth, b: number}
{a = 1, a = true} :: {a: number, a: truth}
{a = 1 | {a = true, b = {}}} :: {a: number, a: truth, b: {}}
fun r => {a = 1 | r} :: {| a} -> {a: number | a}
fun r => {a = r | r} :: {| a} -> {a: {| a} | a}
fun r => {b = r.a | r} :: {a: a | b} -> {a: a, b: a | b}
fun r => {a = true | {a = 1 | r}} :: {| a} -> {a: truth, a: number | a}
{a = 1 | 2} :: none
{a = 1 | true} :: none
{a = 1 | fun x => x} :: none
{a = 1 2} :: none
{a = 1 2 | {}} :: none

{a = 1}.a :: number
{a = 1, a = true}.a :: number
{b = 1, a = true, a = {}}.a :: truth
{a = 1 | {a = true}}.a + 1 :: number
fun r => r.a :: {a: a | b} -> a
fun r => r.a + r.b :: {a: number, b: number | a} -> number
fun r => r.a.b :: {a: {b: a | b} | c} -> a
fun r => {a = true | r}.a :: {| a} -> truth
fun r => {a = true | r}.b :: {b: a | b} -> a
{}.a :: none
{a = 1}.b :: none
1.a :: none
(fun x => x).a :: none
true.a :: none
fun r => {p = r.a + 1, q = if r.a then 1 else 2} :: none

{a = 1}\\a :: {}
{a = 1, a = true}\\a :: {a: truth}
{a = 1, b = {}, a = true}\\a :: {a: truth, b: {}}
{a = 1, b = {}, a = true}\\b :: {a: number, a: truth}
{a = 1, a = true}\\a.a :: truth
{a = 1, a = true}\\a\\a :: {}
fun r => r\\a :: {a: a | b} -> {| b}
fun r => r\\a\\b :: {a: a, b: b | c} -> {| c}
fun r => r\\a\\a :: {a: a, a: b | c} -> {| c}
fun r => {a = r.a + 1 | r\\a} :: {a: number | a} -> {a: number | a}
fun r => {a = 1 | r}\\a :: {| a} -> {| a}
{}\\a :: none
{a = 1}\\b :: none
{a = 1}\\a.a :: none
1\\a :: none
(fun x => x)\\a :: none

(fun r => r.x) {y = true, x = 1} :: number
(fun r => r.x) {y = 1} :: none
(fun r => r\\x) {y = true, x = 1} :: {y: truth}
fun r => if true then r else {a = 1} :: {a: number} -> {a: number}
fun r => fun s => if true then {a = 1 | r} else {b = 2 | s} :: {b: number | a} -> {a: number | a} -> {a: number, b: number | a}
fun r => if true then {a = 1 | r} else {b = 2 | r} :: none
fun r => if true then r else {a = 1 | r} :: none
fun r => if true then {a = 1, b = 2 | r} else {b = 3, a = 4 | r} :: {| a} -> {a: number, b: number | a}
if true then {a = 1, b = true} else {b = false, a = 2} :: {a: number, b: truth}
if true then {a = 1, a = true} else {a = true, a = 1} :: none
fun r => if true then r else {a = r} :: none
"""

LETS = """
let x = 1 in x :: number
let x = 1 in true :: truth
let x = 1 2 in 3 :: none
let x = 3 in 1 2 :: none
let x = fun y => y y in 3 :: none
let x = x in 3 :: none
let x = true in let x = x in x :: truth
let x = true in let x = if x then 1 else 2 in x :: number
let i = fun x => x in {a = i 1, b = i true} :: {a: number, b: truth}
let i = fun x => x in i i :: a -> a
let i = fun x => x in {a = i, b = i} :: {a: a -> a, b: b -> b}
let k = fun x => fun y => x in {a = k 1, b = k true {}} :: {a: a -> number, b: truth}
let s = fun r => r.a in {p = s {a = 1}, q = s {b = 2, a = true}} :: {p: number, q: truth}
let d = fun r => r\\a in {p = d {a = 1}, q = d {b = 2, a = true}} :: {p: {}, q: {b: number}}
let e = {} in {a = 1 | e} :: {a: number}
let r = {f = fun x => x} in {p = r.f 1, q = r.f true} :: {p: number, q: truth}
let f = rec f n => if n then fun x => x else f n in {a = f true 1, b = f false {}} :: {a: number, b: {}}

fun y => let x = y in x :: a -> a
fun y => let x = y in x + 1 :: number -> number
fun y => let x = y in {a = x 1, b = x true} :: none
fun y => let x = y in {a = x + 1, b = if x then 1 else 2} :: none
fun y => let x = fun z => y in {a = x 1, b = x true} :: a -> {a: a, b: a}
fun y => let x = fun z => y in {a = x 1 + 1, b = if x true then 1 else 2} :: none
fun y => let x = fun z => y in {a = x 1 + 1, b = x true} :: number -> {a: number, b: number}
fun y => let x = {p = y, q = fun z => z} in {a = x.p + 1, b = x.q 1, c = x.q true} :: number -> {a: number, b: number, c: truth}
fun y => let x = fun z => {p = z, q = y} in {a = x 1, b = (x true).q + 1} :: number -> {a: {p: number, q: number}, b: number}
fun y => let x = y 1 in {a = x + 1, b = if x then 1 else 2} :: none
fun y => let x = fun z => y z in {a = x 1, b = x true} :: none
fun y => let x = fun r => {a = r.b | y} in {p = x {b = 1}, q = x {b = true}} :: {| a} -> {p: {a: number | a}, q: {a: truth | a}}
fun y => let x = fun r => if true then r else y in {p = x {b = 1}, q = x {}} :: none
fun y => let x = fun r => if true then r.a else y.a in {p = x {a = 1, b = 1}, q = x {a = 1}} :: {a: number | a} -> {p: number, q: number}
fun y => let x = fun z => y.a in {p = y.b, q = x 1, r = x true} :: {a: a, b: b | c} -> {p: b, q: a, r: a}
fun y => let x = y\\a in {p = x.b + 1, q = if x.b then 1 else 2} :: none
rec f y => let g = fun z => f z in {a = g 1} :: none
rec f y => let g = fun z => f in 1 + g 1 1 + g true 2 :: number -> number
rec f y => let g = f in g 1 + g true :: none
fun y => let x = fun z => y in fun y => {a = x 1, b = x true} :: a -> b -> {a: a, b: a}
fun y => let x = y in fun y => let z = x in {a = z + 1, b = if z then 1 else 2} :: none
fun y => let x = fun z => {p = y} in fun y => let w = x in {a = (w 1).p + 1, b = (w 1).p 1} :: none

let a = let i = fun x => x in i i in {p = a 1, q = a true} :: {p: number, q: truth}
let a = fun x => let i = fun z => x in i 1 in {p = a 1, q = a true} :: {p: number, q: truth}
let a = fun x => let i = fun z => x in i in {p = a 1 2, q = a true 3} :: {p: number, q: truth}
let a = fun x => let i = {p = x, q = fun z => z} in {l = i, m = i} in {p = a 1, q = a {}} :: {p: {l: {p: number, q: a -> a}, m: {p: number, q: b -> b}}, q: {l: {p: {}, q: c -> c}, m: {p: {}, q: d -> d}}}
let a = let b = let c = fun x => x in fun y => c y in b in {p = a 1, q = a true} :: {p: number, q: truth}
let a = let b = 1 2 in 3 in 4 :: none
fun y => let a = let b = fun x => y in {l = b 1, m = b true} in a.l + 1 :: number -> number
fun y => let a = let b = fun x => y in {l = b, m = b} in a.l 1 + a.m 2 3 :: none
"""


def chain(many, inner):
    """An expression whose type has twice as many symbols more than that of the inner one."""
    for _ in range(many):
        inner = ("fun", "x", inner)
    return inner


def both(name):
    """A record with the name in two fields."""
    return ("extend", "l", ("name", name), ("extend", "r", ("name", name), ("empty",)))


def letters(number):
    return "x" + "abcdefghijklmnopqrstuvwxyz"[number // 26] + "abcdefghijklmnopqrstuvwxyz"[number % 26]


def doubling(first, many, body):
    """Lets whose bound expressions have types that double each time."""
    for number in reversed(range(many)):
        body = ("let", letters(number + 1), both(letters(number)), body)
    return ("let", letters(0), first, body)


SELECTS_A = ("fun", "r", ("select", "a", ("name", "r")))
IDENTITY = ("fun", "x", ("name", "x"))
NONSENSE = ("call", ("number", 1), ("number", 2))


class Rules(unittest.TestCase):
    def follow(self, table):
        for line in table.strip().splitlines():
            if line:
                text, wanted = [part.strip().replace("\\\\", "\\") for part in line.split("::")]
                found = type_texts(text)
                self.assertEqual(None if found is None else found[0], None if wanted == "none" else wanted, text)

    def test_each_rule(self):
        self.follow(RULES)

    def test_lets(self):
        self.follow(LETS)

    def test_names_that_have_a_part_of_their_types_fixed(self):
        text = "let x = fun z => let x = fun q => z in x in if true then (fun q => x) x (fun q => fun p => x) else x"
        self.assertEqual(type_texts("fun y => " + text)[1], "(b -> c -> d -> c) -> e -> b -> c -> d -> c")

    def test_types_that_would_stand_in_themselves(self):
        # A fixed part that has a use of the name within it: copying it could go on for ever.
        for body in ("y (if true then y x x (x x) else y)", "(if true then y x else x) (let x = x x in x) y",
                     "if true then x x (y x (x x)) else if true then y y else x",
                     "if true then x else if true then y y (x x) else if true then y else if true then x else y",
                     "fun q => (if true then if true then y x else q x else fun p => x q) (y q)"):
            self.assertIsNone(type_texts("fun y => let x = fun z => y in " + body), body)

    def test_examples(self):
        self.assertEqual(type_texts("fun r => {sum = r.x + r.y | r}")[0],
                         "{x: number, y: number | a} -> {sum: number, x: number, y: number | a}")
        found = typed(parse_expression("let i = fun x => x in i 1"), ())
        self.assertIsInstance(found, tuple)
        self.assertEqual([type_text(told) for told in found],
                         ["number", "a -> a", "a", "number", "number -> number", "number"])
        self.assertIsNone(typed(parse_expression("1 2"), ()))
        self.assertEqual(typed(parse_expression("1 2"), (0,)), (("var", "a"), ("number",), ("number",)))

    def test_all_nodes_told_together(self):
        self.assertEqual(type_texts("fun x => fun y => x"), ["a -> b -> a", "b -> a", "a"])
        self.assertEqual(type_texts("(fun x => fun y => y) 1"),
                         ["a -> a", "number -> a -> a", "a -> a", "a", "number"])
        self.assertEqual(type_texts("{a = fun x => x, b = fun y => y}"),
                         ["{a: a -> a, b: b -> b}", "a -> a", "a", "{b: b -> b}", "b -> b", "b", "{}"])
        self.assertEqual(type_texts("let i = fun x => x in 1"), ["number", "a -> a", "a", "number"])
        self.assertEqual(type_texts("let i = fun x => x in i i"),
                         ["a -> a", "b -> b", "b", "a -> a", "(a -> a) -> a -> a", "a -> a"])
        self.assertEqual(type_texts("fun y => let x = fun z => y in x 1"),
                         ["a -> a", "a", "b -> a", "a", "a", "number -> a", "number"])
        self.assertEqual(type_texts("fun r => r.b\\a"),
                         ["{b: {a: a | b} | c} -> {| b}", "{| b}", "{a: a | b}", "{b: {a: a | b} | c}"])
        self.assertEqual(type_texts("rec f n => f (n - 1)"),
                         ["number -> a", "a", "number -> a", "number", "number", "number"])
        self.assertEqual(type_texts("if true then fun x => x else fun x => x"),
                         ["a -> a", "truth", "a -> a", "a", "a -> a", "a"])

    def test_told_in_normal_form(self):
        self.assertEqual(typed(parse_expression("{b = 1, a = 2, b = true}"), ())[0],
                         ("record", (("a", ("number",)), ("b", ("number",)), ("b", ("truth",))), None))

    def test_more_than_26_variables(self):
        expression = chain(30, ("number", 1))
        self.assertEqual(type_text(typed(expression, ())[0])[-27:], "z -> aa -> ab -> ac -> ad -> number"[-27:])


class Ignored(unittest.TestCase):
    def tells(self, text, ignored, *wanted):
        self.assertEqual(type_texts(text, ignored), list(wanted), (text, ignored))

    def none(self, text, ignored):
        self.assertIsNone(type_texts(text, ignored), (text, ignored))

    def test_numbers_and_truths(self):
        self.tells("1", (0,), "a")
        self.tells("true", (0,), "a")
        self.tells("1 2", (1,), "a", "number -> a", "number")
        self.none("1 2", (2,))
        self.tells("true + 1", (1,), "number", "number", "number")
        self.tells("if 1 then 2 else 3", (1,), "number", "truth", "number", "number")

    def test_names(self):
        self.tells("x", (0,), "a")
        self.tells("x + 1", (1,), "number", "number", "number")
        self.tells("fun x => {a = x + 1, b = if x then 1 else 2}", (7,),
                   "number -> {a: number, b: number}", "{a: number, b: number}", "number", "number", "number",
                   "{b: number}", "number", "truth", "number", "number", "{}")
        self.tells("fun x => x", (1,), "a -> b", "b")
        self.none("x + y", (1,))

    def test_functions(self):
        self.tells("fun x => x", (0,), "a", "b")
        self.tells("(fun x => x + 1) true", (1,), "a", "truth -> a", "number", "number", "number", "truth")
        self.tells("(fun x => x) + 1", (1,), "number", "number", "a", "number")
        self.none("fun x => y", (0,))
        self.none("fun x => 1 2", (0,))
        self.none("fun x => {a = x + 1, b = if x then 1 else 2}", (0,))
        self.none("fun x => {a = x 1, b = x true}", (0,))
        self.tells("fun x => fun x => x + 1", (0,), "a", "number -> number", "number", "number", "number")

    def test_recursive_functions(self):
        self.tells("rec f x => f x", (0,), "a", "b", "c -> b", "c")
        self.tells("rec f x => {a = f x + 1}", (0,), "a", "{a: number}", "number", "number", "b -> number", "b",
                   "number", "{}")
        self.none("rec f x => {a = f x + 1}", ())
        self.tells("rec f x => f", (0,), "a", "b -> c")
        self.none("rec f x => f + 1", (0,))
        self.none("rec f x => f.a", (0,))
        self.none("rec f x => {a = f 1, b = f true}", (0,))
        self.none("rec f x => {a = f 1, b = if x then 1 else 2}", (0,))
        self.none("rec f x => y", (0,))
        self.tells("rec f f => f + 1", (0,), "a", "number", "number", "number")
        self.tells("1 + (rec f x => f 2)", (2,), "number", "number", "number", "a", "number -> a", "number")

    def test_lets(self):
        self.tells("let x = 1 in 2", (0,), "a", "number", "number")
        self.tells("let x = fun y => y in {a = x 1, b = x true}", (0,),
                   "a", "b -> b", "b", "{a: number, b: truth}", "number", "number -> number", "number",
                   "{b: truth}", "truth", "truth -> truth", "truth", "{}")
        self.none("let x = 1 2 in 3", (0,))
        self.none("let x = 3 in 1 2", (0,))
        self.none("let x = x in 1", (0,))
        self.none("let x = 1 in if x then 1 else 2", (0,))
        self.none("fun y => let x = y in {a = x + 1, b = if x then 1 else 2}", (1,))
        self.tells("(let x = 1 in x) 2", (1,), "a", "number -> a", "number", "number", "number")

    def test_bound_expressions_of_lets(self):
        # What is ignored has any type, and the name has all types of it.
        self.tells("let x = 1 in {a = x + 1, b = if x then 1 else 2}", (1,),
                   "{a: number, b: number}", "a", "{a: number, b: number}", "number", "number", "number",
                   "{b: number}", "number", "truth", "number", "number", "{}")
        self.tells("fun y => let x = y in {a = x + 1, b = if x then y else y}", (2,),
                   "a -> {a: number, b: a}", "{a: number, b: a}", "b", "{a: number, b: a}", "number", "number",
                   "number", "{b: a}", "a", "truth", "a", "a", "{}")
        self.tells("let x = 1 2 in x + 1", (1,), "number", "a", "number", "number", "number", "number", "number")

    def test_calls_ifs_and_signs(self):
        self.tells("1 2", (0,), "a", "number", "number")
        self.tells("1 + true false", (2,), "number", "number", "number", "truth", "truth")
        self.none("1 (2 3)", (0,))
        self.tells("if 1 then 2 else true", (0,), "a", "number", "number", "truth")
        self.tells("1 + (if 1 then 2 else true)", (2,), "number", "number", "number", "number", "number", "truth")
        self.none("if x then 2 else true", (0,))
        for sign in ("+", "-", "<", "=="):
            self.tells("true " + sign + " {}", (0,), "a", "truth", "{}")
            self.tells("if (true " + sign + " {}) then 1 else 2", (1,), "number", "truth", "truth", "{}", "number",
                       "number")
            self.none("1 2 " + sign + " {}", (0,))

    def test_records(self):
        self.tells("{}", (0,), "a")
        self.tells("1 + {}", (2,), "number", "number", "number")
        self.tells("{}.a", (1,), "a", "{a: a | b}")
        self.tells("{a = 1 | 2}", (0,), "a", "number", "number")
        self.tells("1 + {a = true}", (2,), "number", "number", "number", "truth", "{}")
        self.tells("{a = 1 | 2}.b", (1,), "a", "{b: a | b}", "number", "number")
        self.none("{a = 1 2 | 2}", (0,))
        self.tells("{}.a", (0,), "a", "{}")
        self.tells("1 + {}.a", (2,), "number", "number", "number", "{}")
        self.none("(1 2).a", (0,))
        self.tells("{}\\a", (0,), "a", "{}")
        self.tells("1 + {}\\a", (2,), "number", "number", "number", "{}")
        self.none("(1 2)\\a", (0,))

    def test_several(self):
        self.tells("1 2 + (3 4)", (1, 4), "number", "number", "number", "number", "number", "number", "number")
        self.none("1 2 + (3 4)", (1,))
        self.none("1 2 + (3 4)", (4,))

    def test_all_nodes(self):
        for text in ("x", "1 2", "rec f x => y z", "let x = 1 2 in {a = x | 3}.b\\c", "if 1 then {} else fun x => w"):
            many = len(nodes(parse_expression(text)))
            self.tells(text, tuple(range(many)), *"abcdefghijklmnop"[:many])


class Sizes(unittest.TestCase):
    def large(self, expression, ignored=()):
        with self.assertRaises(TooLarge, msg=expression):
            typed(expression, ignored)

    def test_200_and_201_symbols(self):
        self.assertEqual(symbols(typed(chain(97, SELECTS_A), ())[0]), 200)
        self.assertEqual(symbols(typed(chain(99, ("number", 1)), ())[0]), 199)
        self.large(chain(100, ("number", 1)))
        self.large(chain(98, SELECTS_A))

    def test_at_an_inner_node(self):
        fields = ("extend", "b", chain(97, ("number", 1)), ("extend", "a", ("number", 1), ("empty",)))
        found = typed(("select", "a", fields), ())
        self.assertEqual([found[0], symbols(found[1])], [("number",), 199])
        for inner in (chain(100, ("number", 1)), chain(98, SELECTS_A)):
            self.large(("let", "y", inner, ("number", 1)))
            self.large(("call", ("fun", "x", ("number", 1)), inner))
        self.large(("let", "y", chain(100, ("number", 1)), ("name", "y")))

    def test_none_goes_ahead(self):
        large = chain(100, ("number", 1))
        self.assertIsNone(typed(("let", "y", large, NONSENSE), ()))
        self.assertIsNone(typed(("let", "y", NONSENSE, large), ()))
        self.assertIsNone(typed(("call", ("number", 1), large), ()))

    def test_ignored_nodes_are_not_large(self):
        large = chain(100, ("number", 1))
        self.assertEqual(typed(large, tuple(range(100)))[-1], ("number",))
        self.large(large, (100,))

    def test_types_that_double(self):
        for many in (6, 40, 150):
            for first in (("number", 1), IDENTITY, SELECTS_A):
                for body in (("number", 1), ("name", letters(many)), ("select", "l", ("name", letters(many)))):
                    self.large(doubling(first, many, body))
                    self.large(("fun", "y", doubling(first, many, body)))
                self.assertIsNone(typed(doubling(first, many, NONSENSE), ()))
            # A part of the types that stays the same, and with it parts that do not.
            for first in (("name", "y"), ("fun", "x", ("name", "y")), ("extend", "m", IDENTITY, ("name", "y"))):
                self.large(("fun", "y", doubling(first, many, ("number", 1))))
                self.assertIsNone(typed(("fun", "y", doubling(first, many, NONSENSE)), ()))

    def test_types_that_double_are_made_alike(self):
        for many in (6, 40, 150):
            last = ("name", letters(many))
            for first in (IDENTITY, ("fun", "x", ("name", "y"))):
                for one, other in ((last, last), (last, both(letters(many - 1))), (both(letters(many - 1)), last)):
                    body = doubling(first, many, ("if", ("truth", True), one, other))
                    self.large(("fun", "y", body))
                inner = last
                for label in "lr" * (many // 2):
                    inner = ("select", label, inner)
                wrong = ("op", "+", ("call", inner, ("number", 1)), ("call", inner, ("truth", True)))
                body = doubling(first, many, ("if", ("truth", True), wrong, ("name", "y")))
                if first == IDENTITY:
                    self.assertIsNone(typed(("fun", "y", body), ()))
                else:
                    self.large(("fun", "y", body))

    def test_types_that_double_in_bound_expressions(self):
        for many in (6, 40, 150):
            for first in (IDENTITY, ("fun", "x", ("name", "y"))):
                inner = first
                for _ in range(many):
                    inner = ("let", "x", inner, both("x"))
                body = ("if", ("truth", True), ("select", "l", ("name", "v")), ("select", "r", ("name", "v")))
                self.large(("fun", "y", ("let", "v", inner, body)))

    def test_types_that_double_and_are_small_enough(self):
        found = typed(doubling(IDENTITY, 5, ("name", letters(5))), ())
        # 31 records with 62 fields, 32 functions from a variable to itself.
        self.assertEqual(symbols(found[0]), 31 + 62 + 32 * 3)
        self.assertEqual(len(variables(found[0])[0]), 32)
        # Each use has variables of its own.
        found = typed(doubling(IDENTITY, 2, ("name", letters(2))), ())
        self.assertEqual(type_text(found[0]), "{l: {l: a -> a, r: b -> b}, r: {l: c -> c, r: d -> d}}")

    def test_types_that_square(self):
        def twice(number):
            inner = ("call", ("name", letters(number)), ("name", "x"))
            return ("fun", "x", ("call", ("name", letters(number)), inner))

        body = ("number", 1)
        for number in reversed(range(7)):
            body = ("let", letters(number + 1), twice(number), body)
        self.large(("let", letters(0), ("fun", "x", both("x")), body))

    def test_fields_of_what_doubles(self):
        body = ("name", letters(5))
        for label in "lrlrl":
            body = ("select", label, body)
        found = typed(doubling(IDENTITY, 5, ("op", "+", ("call", body, ("number", 1)), ("number", 2))), ())
        self.assertEqual(found[0], ("number",))


class Given(unittest.TestCase):
    def tells(self, text, given, *wanted):
        self.assertEqual(type_texts(text, (), given), list(wanted), (text, given))

    def none(self, text, given, ignored=()):
        self.assertIsNone(type_texts(text, ignored, given), (text, given))

    def test_no_pairs(self):
        for text in ("fun x => x", "1 2", "x"):
            expression = parse_expression(text)
            self.assertEqual(typed_in(expression, (), ()), typed(expression, ()))

    def test_names_in_reach(self):
        self.tells("x", (("x", "number"),), "number")
        self.tells("y", (("x", "number"), ("y", "truth")), "truth")
        self.none("z", (("x", "number"), ("y", "truth")))
        self.none("if x then 1 else 2", (("x", "number"),))
        self.tells("fun y => x", (("x", "number"),), "a -> number", "number")

    def test_all_types_that_come_from_it(self):
        self.tells("x", (("x", "b -> c"),), "a -> b")
        self.tells("{a = x 1, b = x true}", (("x", "c -> c"),), "{a: number, b: truth}", "number",
                   "number -> number", "number", "{b: truth}", "truth", "truth -> truth", "truth", "{}")
        self.tells("{a = x + 1, b = if x then 1 else 2}.a", (("x", "a"),), "number", "{a: number, b: number}",
                   "number", "number", "number", "{b: number}", "number", "truth", "number", "number", "{}")
        self.tells("(x {a = 1}) + (x {a = 2, b = 3})", (("x", "{a: b | r} -> b"),), "number", "number",
                   "{a: number} -> number", "{a: number}", "number", "{}", "number",
                   "{a: number, b: number} -> number", "{a: number, b: number}", "number", "{b: number}", "number",
                   "{}")
        self.none("x 1 + 2", (("x", "number -> truth"),))
        self.tells("let y = x in {a = y 1, b = y true}.a", (("x", "a -> a"),), "number", "a -> a", "number",
                   "{a: number, b: truth}", "number", "number -> number", "number", "{b: truth}", "truth",
                   "truth -> truth", "truth", "{}")
        self.tells("fun y => let z = x in {a = z 1, b = z true}.a", (("x", "a -> a"),), "a -> number", "number",
                   "b -> b", "number", "{a: number, b: truth}", "number", "number -> number", "number",
                   "{b: truth}", "truth", "truth -> truth", "truth", "{}")

    def test_variables_of_different_pairs(self):
        self.tells("x y", (("x", "a -> a"), ("y", "a")), "a", "a -> a", "a")
        self.tells("{l = x | y}", (("x", "a"), ("y", "{| a}")), "{l: a | b}", "a", "{| b}")
        self.tells("if true then x else y", (("x", "{m: a | b}"), ("y", "{l: b | a}")),
                   "{l: a, m: b | c}", "truth", "{l: a, m: b | c}", "{l: a, m: b | c}")

    def test_later_pairs_go_ahead(self):
        self.tells("x", (("x", "number"), ("x", "truth")), "truth")
        self.tells("x", (("x", "number"), ("y", "{}"), ("x", "truth"), ("y", "number")), "truth")
        self.none("x + 1", (("x", "number"), ("x", "truth")))

    def test_brought_again(self):
        given = (("x", "number"), ("f", "truth"))
        self.tells("fun x => x", given, "a -> a", "a")
        self.tells("rec f x => f x", given, "a -> b", "b", "a -> b", "a")
        self.tells("let x = f in x", given, "truth", "truth", "truth")
        self.tells("let x = x in x", given, "number", "number", "number")
        self.tells("let f = 1 in x + f", given, "number", "number", "number", "number", "number")
        self.none("fun f => if f then f + x else 1", given)

    def test_ignored(self):
        self.assertEqual(type_texts("x + y", (2,), (("x", "number"),)), ["number", "number", "number"])
        self.assertEqual(type_texts("x 1", (0,), (("x", "number"),)), ["a", "number", "number"])
        self.none("x 1", (("x", "number"),), (2,))
        self.assertEqual(type_texts("x 1", (1,), (("x", "number"),)), ["a", "number -> a", "number"])

    def test_types_beyond_the_bound(self):
        general = ("number",)
        for _ in range(100):
            general = ("fun", ("truth",), general)
        self.assertEqual(typed_in(("number", 1), (), (("x", general),)), (("number",),))
        with self.assertRaises(TooLarge):
            typed_in(("name", "x"), (), (("x", general),))
        self.assertEqual(symbols(typed_in(("name", "x"), (), (("x", general[2]),))[0]), 199)


class AgainstTheNaive(unittest.TestCase):
    def test_all_kinds_of_expressions(self):
        source = random.Random(11)
        names = (("x", parse_type("a -> b")), ("y", parse_type("{l: a, m: {| r} | s}")), ("f", parse_type("a")))
        typings = 0
        for _ in range(4000):
            given = names[:source.choice([0, 0, 1, 3])]
            expression = some_expression(source, source.randint(1, 16), [name for name, _ in given])
            many = len(nodes(expression))
            ignored = []
            for _ in range(3):
                wanted = naive_typing(expression, tuple(sorted(ignored)), given)
                if wanted is None or max([symbols(told) for told in wanted]) <= 200:
                    found = typed_in(expression, tuple(sorted(ignored)), given)
                    self.assertEqual(found, wanted, (expression, ignored))
                    typings += found is not None
                left = [number for number in range(many) if number not in ignored]
                ignored += source.sample(left, min(len(left), 2))
        self.assertGreater(typings, 2000)

    def test_lets_within_lets(self):
        source = random.Random(12)
        found = {True: 0, False: 0}
        for _ in range(6000):
            expression = some_lets(source, source.randint(6, 30), [])
            wanted = naive_typing(expression, ())
            if wanted is None or max([symbols(told) for told in wanted]) <= 200:
                self.assertEqual(typed(expression, ()), wanted, expression)
                found[wanted is None] += 1
        self.assertGreater(min(found.values()), 1000)

    def test_arguments_stay(self):
        expression = parse_expression("let i = fun x => x in fun y => {a = i y, b = i true | y}")
        given = (("x", parse_type("{a: b | r}")), ("x", parse_type("b")))
        ahead = copy.deepcopy((expression, given))
        typed_in(expression, (1, 4), given)
        typed(expression, ())
        self.assertEqual((expression, given), ahead)


if __name__ == "__main__":
    unittest.main()
