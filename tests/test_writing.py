import unittest

from rowtypes.expressions import children, nodes
from rowtypes.reading import parse_expression
from rowtypes.writing import expression_text

X, Y, Z = ("name", "x"), ("name", "y"), ("name", "z")
ONE = ("number", 1)
EMPTY = ("empty",)

# One expression of each kind, with its written form.
KINDS = {
    "number": (ONE, "1"),
    "truth": (("truth", True), "true"),
    "name": (X, "x"),
    "fun": (("fun", "x", Y), "fun x => y"),
    "rec": (("rec", "f", "x", Y), "rec f x => y"),
    "call": (("call", X, Y), "x y"),
    "let": (("let", "x", Y, Z), "let x = y in z"),
    "if": (("if", X, Y, Z), "if x then y else z"),
    "+": (("op", "+", X, Y), "x + y"),
    "-": (("op", "-", X, Y), "x - y"),
    "<": (("op", "<", X, Y), "x < y"),
    "==": (("op", "==", X, Y), "x == y"),
    "empty": (EMPTY, "{}"),
    "extend": (("extend", "l", X, Y), "{l = x | y}"),
    "select": (("select", "l", X), "x.l"),
    "drop": (("drop", "l", X), "x\\l"),
}
OPEN = ["fun", "rec", "let", "if"]
COMPARED = OPEN + ["<", "=="]
SUMS = COMPARED + ["+", "-"]
CALLS = SUMS + ["call"]
# Each place in an expression, how it is written around @, and the kinds that need brackets there.
PLACES = [
    (lambda e: ("fun", "a", e), "fun a => @", []),
    (lambda e: ("rec", "a", "b", e), "rec a b => @", []),
    (lambda e: ("call", e, Z), "@ z", SUMS),
    (lambda e: ("call", Z, e), "z @", CALLS),
    (lambda e: ("let", "a", e, Z), "let a = @ in z", []),
    (lambda e: ("let", "a", Z, e), "let a = z in @", []),
    (lambda e: ("if", e, X, Y), "if @ then x else y", []),
    (lambda e: ("if", X, e, Y), "if x then @ else y", []),
    (lambda e: ("if", X, Y, e), "if x then y else @", []),
    (lambda e: ("op", "+", e, Z), "@ + z", COMPARED),
    (lambda e: ("op", "+", Z, e), "z + @", SUMS),
    (lambda e: ("op", "-", e, Z), "@ - z", COMPARED),
    (lambda e: ("op", "-", Z, e), "z - @", SUMS),
    (lambda e: ("op", "<", e, Z), "@ < z", COMPARED),
    (lambda e: ("op", "<", Z, e), "z < @", COMPARED),
    (lambda e: ("op", "==", e, Z), "@ == z", COMPARED),
    (lambda e: ("op", "==", Z, e), "z == @", COMPARED),
    (lambda e: ("extend", "a", e, EMPTY), "{a = @}", []),
    (lambda e: ("extend", "a", e, Z), "{a = @ | z}", []),
    (lambda e: ("extend", "a", Z, e), "{a = z | @}", []),
    (lambda e: ("select", "a", e), "@.a", CALLS),
    (lambda e: ("drop", "a", e), "@\\a", CALLS),
]


def without_brackets(text):
    """The texts that come from this one by one pair of round brackets less."""
    begun = []
    for at, sign in enumerate(text):
        if sign == "(":
            begun.append(at)
        elif sign == ")":
            start = begun.pop()
            yield text[:start] + " " + text[start + 1:at] + " " + text[at + 1:]


class Written(unittest.TestCase):
    def writes(self, expression, text):
        self.assertEqual(expression_text(expression), text)
        self.assertEqual(parse_expression(text), expression, text)

    def test_each_kind(self):
        for expression, text in KINDS.values():
            self.writes(expression, text)
        self.writes(("truth", False), "false")
        self.writes(("number", 0), "0")
        self.writes(("number", 999999), "999999")

    def test_each_kind_in_each_place(self):
        for put, around, bracketed in PLACES:
            for kind, (inner, text) in KINDS.items():
                if around == "{a = z | @}" and kind in ("empty", "extend"):
                    continue
                wanted = around.replace("@", "(" + text + ")" if kind in bracketed else text)
                self.writes(put(inner), wanted)

    def test_extensions(self):
        def field(label, record):
            return ("extend", label, ONE, record)
        self.writes(field("a", EMPTY), "{a = 1}")
        self.writes(field("a", field("b", EMPTY)), "{a = 1, b = 1}")
        self.writes(field("a", field("b", field("a", X))), "{a = 1, b = 1, a = 1 | x}")
        self.writes(field("a", ("fun", "x", field("b", EMPTY))), "{a = 1 | fun x => {b = 1}}")
        self.writes(field("a", ("select", "l", field("b", EMPTY))), "{a = 1 | {b = 1}.l}")
        self.writes(("extend", "a", field("b", X), field("c", EMPTY)), "{a = {b = 1 | x}, c = 1}")
        self.writes(("extend", "a", EMPTY, EMPTY), "{a = {}}")

    def test_from_the_left(self):
        for text in ("a - b + c", "a - (b + c)", "f x y", "f (x y)", "f (x y) z", "r.a\\b.c", "f x.a", "(f x).a",
                     "a + b < c - d", "(a < b) == c", "a == (b < c)", "(a == b) + c", "1.a", "true false 1"):
            self.assertEqual(expression_text(parse_expression(text)), text)

    def test_example(self):
        self.assertEqual(expression_text(parse_expression("((fun x=>(x)) ({a=1|{b=(2)}}))\\a")),
                         "((fun x => x) {a = 1, b = 2})\\a")

    def test_three_levels(self):
        """Each expression of three levels is read again, and needs each of its brackets."""
        for put, _, _ in PLACES:
            for other, _, _ in PLACES:
                for inner, _ in KINDS.values():
                    expression = put(other(inner))
                    text = expression_text(expression)
                    self.assertEqual(parse_expression(text), expression, text)
                    for shorter in without_brackets(text):
                        self.assertFalse(self.is_text_of(shorter, expression), text)

    def is_text_of(self, text, expression):
        try:
            return parse_expression(text) == expression
        except ValueError:
            return False

    def test_all_kinds_were_tried(self):
        seen = {node[0] for put, _, _ in PLACES for node in nodes(put(X))}
        self.assertEqual(seen, {inner[0] for inner, _ in KINDS.values()} - {"number", "truth"})
        for put, around, _ in PLACES:
            self.assertIn(("number", 77), children(put(("number", 77))), around)

    def test_beyond_what_is_read(self):
        deep = X
        for _ in range(2000):
            deep = ("op", "+", ONE, deep)
        text = expression_text(deep)
        self.assertTrue(text.startswith("1 + (1 + (1 + "))
        self.assertEqual(text.count("("), 1999)


if __name__ == "__main__":
    unittest.main()
