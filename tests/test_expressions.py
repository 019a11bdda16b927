import unittest

from rowtypes.expressions import children, free_names, is_name, nodes
from rowtypes.reading import parse_expression

WORDS = "fun rec let in if then else true false".split()
A, B, C = ("name", "a"), ("number", 2), ("empty",)

# Each kind of expression of c3, and its children.
KINDS = [
    (("number", 5), ()),
    (("truth", True), ()),
    (("truth", False), ()),
    (("name", "x"), ()),
    (("fun", "x", A), (A,)),
    (("rec", "f", "x", A), (A,)),
    (("call", A, B), (A, B)),
    (("let", "x", A, B), (A, B)),
    (("if", A, B, C), (A, B, C)),
    (("op", "+", A, B), (A, B)),
    (("op", "-", A, B), (A, B)),
    (("op", "<", A, B), (A, B)),
    (("op", "==", A, B), (A, B)),
    (("empty",), ()),
    (("extend", "l", A, C), (A, C)),
    (("select", "l", A), (A,)),
    (("drop", "l", A), (A,)),
]


class Names(unittest.TestCase):
    def test_lengths(self):
        for text in ("a", "z", "ab", "abcdef", "number", "truth"):
            self.assertIs(is_name(text), True, text)
        for text in ("", "abcdefg", "numbers"):
            self.assertIs(is_name(text), False, text)

    def test_words(self):
        for word in WORDS:
            self.assertIs(is_name(word), False, word)
            self.assertIs(is_name(word + "x"), True, word)

    def test_other_characters(self):
        for text in ("A", "aB", "a1", "1", "a b", " a", "a ", "a\n", "_", "a_b", "\u00e9", "a-b", "?"):
            self.assertIs(is_name(text), False, text)


class Nodes(unittest.TestCase):
    def test_children_of_each_kind(self):
        for expression, wanted in KINDS:
            self.assertEqual(children(expression), wanted, expression)
            self.assertIsInstance(children(expression), tuple)

    def test_nodes_of_each_kind(self):
        for expression, wanted in KINDS:
            self.assertEqual(nodes(expression), [expression] + list(wanted), expression)

    def test_all_nodes_of_a_child_ahead_of_the_next_child(self):
        inner = ("call", A, ("op", "+", B, A))
        other = ("select", "l", ("extend", "l", B, C))
        expression = ("let", "x", inner, ("if", other, inner, ("fun", "y", A)))
        self.assertEqual(nodes(expression), [
            expression, inner, A, inner[2], B, A, expression[3], other, other[2], B, C,
            inner, A, inner[2], B, A, ("fun", "y", A), A])

    def test_a_new_list_each_time(self):
        found = nodes(B)
        found.append(A)
        self.assertEqual(nodes(B), [B])

    def test_deep(self):
        expression = A
        for _ in range(3000):
            expression = ("fun", "x", expression)
        self.assertEqual(len(nodes(expression)), 3001)
        self.assertEqual(free_names(expression), ["a"])


class FreeNames(unittest.TestCase):
    def check(self, text, wanted):
        self.assertEqual(free_names(parse_expression(text)), wanted, text)

    def test_none(self):
        for text in ("1", "true", "{}", "fun x => x", "rec f x => f x", "let x = 1 in x"):
            self.check(text, [])

    def test_each_once_by_first_occurrence(self):
        self.check("b a b c a", ["b", "a", "c"])
        self.check("{x = d, y = c | b}.z a", ["d", "c", "b", "a"])
        self.check("if c then b else a + c", ["c", "b", "a"])

    def test_labels_are_no_names(self):
        self.check("{a = 1}.b\\c", [])

    def test_fun(self):
        self.check("fun x => y x", ["y"])
        self.check("x (fun x => x)", ["x"])
        self.check("(fun x => x) x", ["x"])
        self.check("y (fun x => z x) x", ["y", "z", "x"])
        self.check("fun x => fun y => x y", [])
        self.check("fun x => (fun x => x) x", [])

    def test_rec(self):
        self.check("rec f x => g f x", ["g"])
        self.check("(rec f x => f x) f x", ["f", "x"])
        self.check("rec f f => f g", ["g"])
        self.check("f (rec f f => f)", ["f"])

    def test_let_brings_in_its_body_alone(self):
        self.check("let x = x in x", ["x"])
        self.check("let x = y in x z", ["y", "z"])
        self.check("let x = 1 in let y = x in x y", [])
        self.check("(let x = 1 in x) x", ["x"])
        self.check("fun x => let x = x in x", [])
        self.check("let x = fun y => y in y", ["y"])

    def test_a_new_list_each_time(self):
        found = free_names(A)
        found.append("b")
        self.assertEqual(free_names(A), ["a"])


if __name__ == "__main__":
    unittest.main()
