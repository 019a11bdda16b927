import copy
import itertools
import random
import unittest

from rowtypes.errors import TooLarge
from rowtypes.explaining import explanation, has_one, repairs
from rowtypes.expressions import nodes
from rowtypes.reading import parse_expression
from rowtypes.typings import typed
from tests.helpers import some_expression
from tests.naive import naive_typing

# Expressions, the explanation that is told, and the repairs, NONE where the least ones have more than two nodes.
TOLD = """
(fun r => r.x) {y = 1} :: 0 1 2 3 4 6 :: 0, 1, 2, 3, 4, 6
if 1 then 2 else true :: 0 2 3 :: 0
1 2 :: 0 1 :: 0, 1
x :: 0 :: 0
x + y :: 2 :: 1 2
x + 1 :: 1 :: 1
fun x => y :: 1 :: 1
let x = 1 in y :: 2 :: 2
let x = x in 1 :: 1 :: 1
x (y + z) :: 4 :: NONE
{a = x, b = y} :: 3 :: 1 3
1 + true :: 0 2 :: 0, 2
true + false :: 0 2 :: 0
if 1 then 2 else 3 :: 0 1 :: 0, 1
true 1 + 2 :: 1 2 :: 1, 2
{}.a :: 0 1 :: 0, 1
{a = 1}\\b :: 0 1 3 :: 0, 1, 3
{a = 1 | 2} :: 0 2 :: 0, 2
fun x => x x :: 1 2 3 :: 1, 2, 3
rec f x => f :: 0 1 :: 0, 1
rec f f => f f :: 1 2 3 :: 1, 2, 3
let x = fun y => y y in 3 :: 2 3 4 :: 2, 3, 4
let x = 1 in x 2 :: 1 2 3 :: 1, 2, 3
let i = fun x => x in {a = i 1, b = 1 2} :: 8 9 :: 8, 9
fun y => let x = y in {a = x + 1, b = if x then 1 else 2} :: 2 4 5 8 9 :: 2, 4, 5, 8, 9
1 2 + (3 4) :: 4 5 :: 1 4, 1 5, 2 4, 2 5
1 2 + (3 4) + (5 6) :: 8 9 :: NONE
if 1 2 then 3 else true :: 1 2 :: 0 1, 0 2, 1 4, 1 5, 2 4, 2 5
"""

ANY_TYPE = """
1
fun x => x
let i = fun x => x in i i
{a = 1}.a
rec f n => f (n - 1)
"""


def numbers(text):
    """The tuple of numbers in a text; () for the dash."""
    return tuple([int(word) for word in text.split() if word != "-"])


def rows(table):
    return [[part.strip() for part in line.replace("\\\\", "\\").split("::")] for line in table.splitlines() if line]


def others(expression, kept):
    """The numbers of all nodes but for some."""
    return tuple([number for number in range(len(nodes(expression))) if number not in kept])


def subsets(many, most):
    """All sets of at most so many numbers below the first one, ascending tuples."""
    for size in range(most + 1):
        yield from itertools.combinations(range(many), size)


class Judge:
    """What the points say of an expression, worked out from all sets of nodes that are ignored."""

    def __init__(self, expression):
        self.many = len(nodes(expression))
        self.typings = {chosen: naive_typing(expression, chosen) is not None for chosen in subsets(self.many, self.many)}

    def explains(self, chosen):
        return not self.typings[tuple([number for number in range(self.many) if number not in chosen])]

    def least_explanations(self):
        found = [chosen for chosen in subsets(self.many, self.many) if self.explains(chosen)]
        return [chosen for chosen in found
                if not any(self.explains([kept for kept in chosen if kept != number]) for number in chosen)]

    def told(self):
        if self.typings[()]:
            return None
        kept = list(range(self.many))
        for number in range(self.many):
            if self.explains([other for other in kept if other != number]):
                kept.remove(number)
        return tuple(kept)

    def repairs(self):
        for size in range(3):
            found = [chosen for chosen in itertools.combinations(range(self.many), size) if self.typings[chosen]]
            if found:
                return found
        return []


def doubling(many, body):
    """Lets whose bound expressions have types that double each time."""
    for number in reversed(range(many)):
        pair = ("extend", "l", ("name", f"a{number}"), ("extend", "r", ("name", f"a{number}"), ("empty",)))
        body = ("let", f"a{number + 1}", pair, body)
    return ("let", "a0", ("fun", "x", ("name", "x")), body)


class HasOne(unittest.TestCase):
    def test_answers(self):
        for text, ignored, wanted in (("1", "-", True), ("1 2", "-", False), ("1 2", "0", True), ("1 2", "1", True),
                                      ("1 2", "2", False), ("1 2", "0 1 2", True), ("x", "-", False), ("x", "0", True),
                                      ("fun x => 1 2", "0", False), ("fun x => x", "-", True)):
            self.assertIs(has_one(parse_expression(text), numbers(ignored)), wanted, (text, ignored))

    def test_what_is_too_large_counts(self):
        long = ("number", 1)
        for _ in range(100):
            long = ("fun", "x", long)
        for expression in (long, doubling(12, ("number", 1)), doubling(60, ("name", "a60"))):
            self.assertRaises(TooLarge, typed, expression, ())
            self.assertIs(has_one(expression, ()), True)
            self.assertIsNone(explanation(expression))
            self.assertEqual(repairs(expression), [()])

    def test_what_is_too_large_beside_a_fault(self):
        expression = doubling(8, ("call", ("number", 1), ("name", "a8")))
        first = len(nodes(expression)) - 3
        # Only the call of a number is at fault, whatever is passed.
        self.assertEqual(explanation(expression), (first, first + 1))
        self.assertEqual(repairs(expression), [(first,), (first + 1,)])


class Told(unittest.TestCase):
    def test_table(self):
        for text, wanted, sets in rows(TOLD):
            expression = parse_expression(text)
            self.assertEqual(explanation(expression), numbers(wanted), text)
            found = [] if sets == "NONE" else [numbers(part) for part in sets.split(",")]
            self.assertEqual(repairs(expression), found, text)

    def test_expressions_with_a_typing(self):
        for [text] in rows(ANY_TYPE):
            self.assertIsNone(explanation(parse_expression(text)), text)
            self.assertEqual(repairs(parse_expression(text)), [()], text)

    def test_examples(self):
        expression = parse_expression("(fun r => r.x) {y = 1}")
        self.assertEqual(explanation(expression), (0, 1, 2, 3, 4, 6))
        self.assertEqual(repairs(expression), [(0,), (1,), (2,), (3,), (4,), (6,)])
        expression = parse_expression("if 1 then 2 else true")
        self.assertEqual((explanation(expression), repairs(expression)), ((0, 2, 3), [(0,)]))

    def test_kinds_of_values(self):
        expression = parse_expression("1 2 + (3 4)")
        self.assertIsInstance(explanation(expression), tuple)
        self.assertIsInstance(repairs(expression), list)
        self.assertIsInstance(repairs(expression)[0], tuple)

    def test_new_each_time(self):
        expression = parse_expression("1 2")
        repairs(expression).append("more")
        self.assertEqual(repairs(expression), [(0,), (1,)])

    def test_arguments_stay(self):
        expression = parse_expression("let i = fun x => x in {a = i 1 2, b = 3 y}")
        ahead = copy.deepcopy(expression)
        has_one(expression, (1, 3))
        explanation(expression)
        repairs(expression)
        self.assertEqual(expression, ahead)


class ByAllSets(unittest.TestCase):
    """Small expressions, with each set of nodes ignored in turn."""

    def expressions(self, many, least, most):
        source = random.Random(3)
        found = 0
        while found < many:
            expression = some_expression(source, source.randint(least, most), [])
            if len(nodes(expression)) <= most and naive_typing(expression, ()) is None:
                found += 1
                yield expression

    def test_explanations_and_repairs(self):
        sizes = {}
        for expression in self.expressions(120, 3, 9):
            judge = Judge(expression)
            for chosen, wanted in judge.typings.items():
                self.assertEqual(has_one(expression, chosen), wanted, (expression, chosen))
            self.assertEqual(explanation(expression), judge.told(), expression)
            self.assertEqual(repairs(expression), judge.repairs(), expression)
            sizes[tuple(map(len, judge.repairs()[:1]))] = True
        self.assertEqual(sorted(sizes), [(), (1,), (2,)])

    def test_least_explanations(self):
        for expression in self.expressions(60, 3, 8):
            judge = Judge(expression)
            least = judge.least_explanations()
            self.assertIn(explanation(expression), least)
            for chosen, wanted in judge.typings.items():
                # A repair is what has a node in common with each least explanation.
                meets = all(any(number in inner for number in chosen) for inner in least)
                self.assertEqual(has_one(expression, chosen), wanted, (expression, chosen))
                self.assertEqual(meets, wanted, (expression, chosen))
            for number in range(judge.many):
                self.assertEqual(all(number in inner for inner in least), has_one(expression, (number,)))

    def test_larger_expressions(self):
        for expression in self.expressions(150, 10, 24):
            told = explanation(expression)
            self.assertFalse(has_one(expression, others(expression, told)), expression)
            for number in told:
                left = [other for other in told if other != number]
                self.assertTrue(has_one(expression, others(expression, left)), expression)
            for repair in repairs(expression):
                self.assertTrue(has_one(expression, repair), expression)
                self.assertTrue(any(number in told for number in repair), expression)
                more = tuple(sorted(repair + others(expression, repair)[::2]))
                self.assertTrue(has_one(expression, more), expression)

    def test_repairs_of_two_nodes_in_their_order(self):
        for expression in self.expressions(60, 8, 14):
            found = repairs(expression)
            self.assertEqual(found, sorted(found))
            many = len(nodes(expression))
            singles = [(number,) for number in range(many) if naive_typing(expression, (number,)) is not None]
            doubles = [pair for pair in itertools.combinations(range(many), 2)
                       if naive_typing(expression, pair) is not None]
            self.assertEqual(found, singles or doubles, expression)


if __name__ == "__main__":
    unittest.main()
