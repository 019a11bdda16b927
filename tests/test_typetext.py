import itertools
import unittest

from rowtypes.errors import TooLarge
from rowtypes.types import symbols
from rowtypes.typetext import parse_type, type_text
from tests.helpers import Grammar, changed, fault, rules

TOKEN = "unexpected token"
END = "unexpected end"
N, T = ("number",), ("truth",)
A, B = ("var", "a"), ("var", "b")

# y1, with choices and repetitions written out as rules; @ stands for the sign |.
GRAMMAR = Grammar(rules("""
start :: arrows
arrows :: atom | atom -> arrows
atom :: number | NAME | ( arrows ) | { } | { fields } | { @ NAME } | { fields @ NAME }
fields :: field | fields , field
field :: label : arrows
label :: NAME | number
"""), "start")
ALPHABET = "number NAME -> ( ) { } : , | NOWHERE".split()


def fun(one, other):
    return ("fun", one, other)


def record(*fields, end=None):
    return ("record", fields, end)


# Types and their written forms.
FORMS = [
    (N, "number"),
    (T, "truth"),
    (A, "a"),
    (("var", "abcdef"), "abcdef"),
    (record(), "{}"),
    (record(end="a"), "{| a}"),
    (record(("x", N)), "{x: number}"),
    (record(("x", A), end="b"), "{x: a | b}"),
    (record(("y", A), ("x", T), ("x", N), end="r"), "{y: a, x: truth, x: number | r}"),
    (fun(A, B), "a -> b"),
    (fun(A, fun(B, A)), "a -> b -> a"),
    (fun(fun(A, B), A), "(a -> b) -> a"),
    (fun(fun(A, fun(B, A)), fun(fun(A, A), B)), "(a -> b -> a) -> (a -> a) -> b"),
    (fun(fun(fun(A, B), A), B), "((a -> b) -> a) -> b"),
    (record(("f", fun(A, B)), ("g", fun(fun(A, A), B))), "{f: a -> b, g: (a -> a) -> b}"),
    (fun(record(("f", fun(A, B)), end="r"), record(end="r")), "{f: a -> b | r} -> {| r}"),
    (record(("x", record(("y", record()))), ("z", record(end="q"))), "{x: {y: {}}, z: {| q}}"),
    (record(("number", T), ("truth", N), ("fun", A)), "{number: truth, truth: number, fun: a}"),
]


class Forms(unittest.TestCase):
    def test_written(self):
        for given, text in FORMS:
            self.assertEqual(type_text(given), text)

    def test_read(self):
        for given, text in FORMS:
            self.assertEqual(parse_type(text), given, text)

    def test_each_kind_in_each_place(self):
        for given, text in FORMS:
            argument = "(" + text + ")" if given[0] == "fun" else text
            self.assertEqual(type_text(fun(given, N)), argument + " -> number")
            self.assertEqual(type_text(fun(N, given)), "number -> " + text)
            self.assertEqual(type_text(record(("l", given), end="z")), "{l: " + text + " | z}")

    def test_spaces_newlines_and_brackets(self):
        for text in ("a->b->a", " a -> b -> a ", "\na\n->\nb->\n\na\n", "a->(b->a)", "((a))->(b->(a))"):
            self.assertEqual(parse_type(text), fun(A, fun(B, A)), text)
        for text in ("{x:a|b}", "{ x : a | b }", "{\nx\n:\n(a)\n|\nb\n}"):
            self.assertEqual(parse_type(text), record(("x", A), end="b"), text)
        self.assertEqual(parse_type("{|a}"), record(end="a"))
        self.assertEqual(parse_type("{ }"), record())

    def test_words_of_the_expressions_are_names_here(self):
        for word in "fun rec let in if then else true false".split():
            self.assertEqual(parse_type(word), ("var", word))
            self.assertEqual(parse_type("{" + word + ": number | " + word + "}"), record((word, N), end=word))

    def test_fields_as_they_are_written(self):
        self.assertEqual(parse_type("{y: a, x: b, y: b}"), record(("y", A), ("x", B), ("y", B)))


FAULTS = [
    # the beginning of a type
    ("", 1, END), (" \n", 1, END), (")", 1, TOKEN), ("->", 1, TOKEN), ("}", 1, TOKEN), ("|", 1, TOKEN),
    (":", 1, TOKEN), (",", 1, TOKEN),
    # arrows
    ("a ->", 3, END), ("a -> ->", 3, TOKEN), ("a b", 2, TOKEN), ("a -> b c", 4, TOKEN), ("number number", 2, TOKEN),
    ("a -> )", 3, TOKEN), ("a : b", 2, TOKEN), ("a {}", 2, TOKEN), ("a | b", 2, TOKEN),
    # round brackets
    ("(", 2, END), ("()", 2, TOKEN), ("(a", 3, END), ("(a}", 3, TOKEN), ("(a,", 3, TOKEN), ("(a ->", 4, END),
    ("(a))", 4, TOKEN), ("a)", 2, TOKEN), ("((a)", 5, END),
    # records and fields
    ("{", 2, END), ("{(", 2, TOKEN), ("{,", 2, TOKEN), ("{:", 2, TOKEN), ("{x", 3, END), ("{x}", 3, TOKEN),
    ("{x =", 3, TOKEN), ("{x |", 3, TOKEN), ("{x:", 4, END), ("{x:}", 4, TOKEN), ("{x: a", 5, END),
    ("{x: a)", 5, TOKEN), ("{x: a:", 5, TOKEN), ("{x: a b", 5, TOKEN), ("{x: a,", 6, END), ("{x: a,}", 6, TOKEN),
    ("{x: a,|", 6, TOKEN), ("{x: a, y", 7, END), ("{x: a |", 6, END), ("{x: a | }", 6, TOKEN),
    ("{x: a | {", 6, TOKEN), ("{x: a | (", 6, TOKEN), ("{x: a | b", 7, END), ("{x: a | b,", 7, TOKEN),
    ("{x: a | b | c", 7, TOKEN), ("{|", 3, END), ("{|}", 3, TOKEN), ("{| a", 4, END), ("{| a,", 4, TOKEN),
    ("{| a ->", 4, TOKEN), ("{| a: b", 4, TOKEN), ("{} }", 3, TOKEN), ("{}}", 3, TOKEN), ("{} ->", 4, END),
    # number and truth are no variables
    ("{| number}", 3, TOKEN), ("{| truth}", 3, TOKEN), ("{x: a | number}", 6, TOKEN), ("{x: a | truth", 6, TOKEN),
]


class Faults(unittest.TestCase):
    def refuses(self, text, token, reason=TOKEN):
        self.assertEqual(fault(parse_type, text), (token, reason), text)

    def test_tokens_and_ends(self):
        for text, token, reason in FAULTS:
            self.refuses(text, token, reason)

    def test_runs(self):
        self.refuses("abcdefg", 1)
        self.refuses("a -> abcdefg", 3)
        self.refuses("{abcdefg: a}", 2)
        self.refuses("{| abcdefg}", 3)

    def test_what_fits_nowhere(self):
        for sign in ["?", "=", "=>", "-", ">", "<", "+", ".", "\\", "1", "0", "12", "\t", "\r", "A", "_", ";", "!",
                     "\u00e9", "\u0664", "\u00a0"]:
            self.refuses(sign, 1)
            self.refuses("a -> " + sign, 3)
            self.refuses("a " + sign, 2)
            self.refuses("{x" + sign + " a}", 3)
        self.refuses("a - > b", 2)

    def test_length_of_the_text(self):
        self.assertEqual(parse_type("a" + " " * 599), A)
        for text in ("a" + " " * 600, "$" * 601, "a -> " * 200):
            self.refuses(text, 0, "text too long")
        self.refuses("$" * 600, 1)

    def test_variables_as_types_and_as_rows(self):
        def mixed(name):
            return name + " is used as a type and as a row"
        self.refuses("a -> {| a}", 0, mixed("a"))
        self.refuses("{| a} -> a", 0, mixed("a"))
        self.refuses("{x: a | a}", 0, mixed("a"))
        self.refuses("{x: {y: b | a} | b}", 0, mixed("b"))
        self.refuses("a -> b -> {| b} -> {| a}", 0, mixed("a"))
        self.refuses("c -> {| b} -> {| a} -> a -> b", 0, mixed("b"))
        self.refuses("{x: {| b}, y: a | a} -> b", 0, mixed("b"))
        self.refuses("fun -> {| fun}", 0, mixed("fun"))
        self.assertEqual(parse_type("{a: b | r} -> {b: a | r}")[0], "fun")
        self.assertEqual(parse_type("{r: a | r}"), record(("r", A), end="r"))

    def test_symbols(self):
        largest = "a->" * 99 + "{|r}"
        self.assertEqual(symbols(parse_type(largest)), 200)
        self.assertEqual(type_text(parse_type(largest)), "a -> " * 99 + "{| r}")
        fields = "{" + ",".join(["x:{|r}"] * 49) + ",x:a|r}"
        self.assertEqual(symbols(parse_type(fields)), 1 + 49 * 3 + 2 + 1)
        for text in ("a->" * 100 + "a", "{" + ",".join(["x:{}"] * 99) + ",x:{|r}}", "a->" * 199 + "a"):
            with self.assertRaises(TooLarge):
                parse_type(text)
        self.assertEqual(symbols(parse_type("{" + ",".join(["x:{}"] * 98) + ",x:{|r}}")), 200)

    def test_too_large_behind_the_faults_of_the_text(self):
        many = "a->" * 120
        self.refuses(many + "a)", 242)
        self.refuses(many, 241, END)
        self.refuses(many + "{|a}", 0, "a is used as a type and as a row")
        self.refuses(many + "a" + " " * 300, 0, "text too long")

    def test_tokens_ahead_of_mixed_variables(self):
        self.refuses("a -> {| a} )", 7)
        self.refuses("a -> {| a} ->", 8, END)

    def test_fifty_brackets(self):
        self.assertEqual(parse_type("(" * 50 + "a" + ")" * 50), A)
        self.refuses("{x:" * 50 + "a->" * 100, 351, END)

    def test_by_the_grammar(self):
        rows = [list(row) for many in range(5) for row in itertools.product(ALPHABET, repeat=many)]
        for text in ("( NAME -> NAME ) -> number", "{ NAME : number , number : { } | NAME } -> NAME", "{ | NAME }"):
            rows.extend(changed(text.split(), ALPHABET))
        for tokens in rows:
            # All variables have other names, so that none is a type and a row.
            spelled = {"NOWHERE": "!"}
            text = " ".join([spelled.get(token, token) for token in tokens])
            for letter in "abcdefghij":
                text = text.replace("NAME", letter, 1)
            self.assertEqual(fault(parse_type, text), GRAMMAR.verdict(tokens), text)


if __name__ == "__main__":
    unittest.main()
