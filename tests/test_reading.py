import itertools
import unittest

from rowtypes.reading import parse_expression
from rowtypes.expressions import nodes
from tests.helpers import Grammar, changed, fault, rules

TOKEN = "unexpected token"
END = "unexpected end"


def name(text):
    return ("name", text)


X, Y, Z = name("x"), name("y"), name("z")

# t2, with choices and repetitions written out as rules; @ stands for the sign |.
GRAMMAR = Grammar(rules("""
expression :: fun NAME => expression | rec NAME NAME => expression | let NAME = expression in expression | if expression then expression else expression | comparison
comparison :: sum | sum < sum | sum == sum
sum :: application | sum + application | sum - application
application :: suffixed | application suffixed
suffixed :: primary | suffixed . NAME | suffixed \\ NAME
primary :: NUMBER | true | false | NAME | ( expression ) | { } | { fields } | { fields @ expression }
fields :: field | fields , field
field :: NAME = expression
"""), "expression")
ALPHABET = "fun rec let in if then else true NAME NUMBER => == = < + . ( ) { } , | NOWHERE".split()
SPELLED = {"NAME": "x", "NUMBER": "7", "NOWHERE": "!"}


class Tokens(unittest.TestCase):
    def reads(self, text, wanted):
        self.assertEqual(parse_expression(text), wanted, text)

    def refuses(self, text, token, reason=TOKEN):
        self.assertEqual(fault(parse_expression, text), (token, reason), text)

    def test_names(self):
        for text in ("a", "z", "abcdef", "number", "truth", "funs", "xfun", "inn", "lets", "truex"):
            self.reads(text, name(text))
        self.refuses("abcdefg", 1)
        self.refuses("f abcdefg", 2)
        self.refuses("fun abcdefg => 1", 2)
        self.refuses("a.abcdefg", 3)

    def test_number_and_truth_are_names(self):
        self.reads("fun number => {truth = number}", ("fun", "number", ("extend", "truth", name("number"), ("empty",))))
        self.reads("truth.number\\truth", ("drop", "truth", ("select", "number", name("truth"))))

    def test_words_are_no_names(self):
        for word in "fun rec let in if then else true false".split():
            self.refuses("fun " + word + " => 1", 2)
            self.refuses("rec f " + word + " => 1", 3)
            self.refuses("let " + word + " = 1 in 2", 2)
            self.refuses("r." + word, 3)
            self.refuses("r\\" + word, 3)
            self.refuses("{" + word + " = 1}", 2)

    def test_numbers(self):
        for text in ("0", "7", "10", "999999", "100000"):
            self.reads(text, ("number", int(text)))
            self.reads("1 + " + text, ("op", "+", ("number", 1), ("number", int(text))))
        for text in ("1000000", "01", "00", "007", "0000000"):
            self.refuses(text, 1)
            self.refuses("1 + " + text, 3)

    def test_truths(self):
        self.assertIs(parse_expression("true")[1], True)
        self.assertIs(parse_expression("false")[1], False)

    def test_spaces_and_newlines(self):
        wanted = ("fun", "x", ("op", "+", ("select", "a", X), ("number", 1)))
        for text in ("fun x=>x.a+1", " fun x => x . a + 1 ", "\n\nfun\nx\n=>\nx\n.\na\n+\n1\n", "fun x=>x\n.a   +1"):
            self.reads(text, wanted)

    def test_runs_beside_runs(self):
        self.reads("f1", ("call", name("f"), ("number", 1)))
        self.reads("1f", ("call", ("number", 1), name("f")))
        self.reads("ab12cd", ("call", ("call", name("ab"), ("number", 12)), name("cd")))
        self.reads("fx", name("fx"))
        self.reads("f x", ("call", name("f"), name("x")))
        self.reads("1 2", ("call", ("number", 1), ("number", 2)))
        self.reads("12", ("number", 12))
        self.reads("true1", ("call", ("truth", True), ("number", 1)))
        self.refuses("fun1", 2)
        self.refuses("funx=>x", 2)

    def test_signs_beside_signs(self):
        self.reads("x==y", ("op", "==", X, Y))
        self.reads("fun x=>{}", ("fun", "x", ("empty",)))
        self.refuses("x= =y", 2)
        self.refuses("x===y", 3)
        self.refuses("fun x= >x", 3)
        self.refuses("fun x==>x", 3)
        self.refuses("let x==1 in x", 3)
        self.refuses("{a=>1}", 3)

    def test_what_fits_nowhere(self):
        for sign in ["?", "!", ">", ":", ";", "*", "/", "_", "A", "Z", "\t", "\r", "[", "]", "'", '"', "&",
                     "\u00e9", "\u00a0", "\u0664", "\u00df", "\u2028", "\x00", "@", "`"]:
            self.refuses(sign, 1)
            self.refuses("x " + sign, 2)
            self.refuses("x" + sign + "y", 2)
            self.refuses("fun " + sign + " => x", 2)
            self.refuses("(x + y" + sign, 5)

    def test_each_other_character_is_a_token(self):
        self.refuses("x + $$ y z )", 3)
        self.refuses("fun $$", 2)


class Language(unittest.TestCase):
    def reads(self, text, wanted):
        self.assertEqual(parse_expression(text), wanted, text)

    def test_each_rule(self):
        one = ("number", 1)
        self.reads("fun x => y", ("fun", "x", Y))
        self.reads("rec x y => z", ("rec", "x", "y", Z))
        self.reads("rec x x => x", ("rec", "x", "x", X))
        self.reads("let x = y in z", ("let", "x", Y, Z))
        self.reads("if x then y else z", ("if", X, Y, Z))
        self.reads("x < y", ("op", "<", X, Y))
        self.reads("x == y", ("op", "==", X, Y))
        self.reads("x + y", ("op", "+", X, Y))
        self.reads("x - y", ("op", "-", X, Y))
        self.reads("x y", ("call", X, Y))
        self.reads("x.y", ("select", "y", X))
        self.reads("x\\y", ("drop", "y", X))
        self.reads("(x)", X)
        self.reads("((x))", X)
        self.reads("{}", ("empty",))
        self.reads("{ }", ("empty",))
        self.reads("{a = 1}", ("extend", "a", one, ("empty",)))
        self.reads("{a = 1 | x}", ("extend", "a", one, X))
        self.reads("{a = 1, b = x | y}", ("extend", "a", one, ("extend", "b", X, Y)))
        self.reads("{a = 1, a = x}", ("extend", "a", one, ("extend", "a", X, ("empty",))))
        self.reads("{a = 1 | {b = x}}", ("extend", "a", one, ("extend", "b", X, ("empty",))))

    def test_from_the_left(self):
        self.reads("x - y + z", ("op", "+", ("op", "-", X, Y), Z))
        self.reads("x + y - z", ("op", "-", ("op", "+", X, Y), Z))
        self.reads("x y z", ("call", ("call", X, Y), Z))
        self.reads("x.y\\z", ("drop", "z", ("select", "y", X)))
        self.reads("x (y z)", ("call", X, ("call", Y, Z)))
        self.reads("x - (y + z)", ("op", "-", X, ("op", "+", Y, Z)))

    def test_which_binds_closer(self):
        self.reads("x y.z", ("call", X, ("select", "z", Y)))
        self.reads("(x y).z", ("select", "z", ("call", X, Y)))
        self.reads("x + y z", ("op", "+", X, ("call", Y, Z)))
        self.reads("x + y < z - x", ("op", "<", ("op", "+", X, Y), ("op", "-", Z, X)))
        self.reads("fun x => y z + x < y", ("fun", "x", parse_expression("y z + x < y")))
        self.reads("if x then y else z x", ("if", X, Y, ("call", Z, X)))
        self.reads("let x = fun y => y in x", ("let", "x", ("fun", "y", Y), X))
        self.reads("let x = let y = x in y in x", ("let", "x", ("let", "y", X, Y), X))
        self.reads("if if x then y else z then x else if y then z else x",
                   ("if", ("if", X, Y, Z), X, ("if", Y, Z, X)))
        self.reads("{a = fun x => y, b = x | fun y => z}",
                   ("extend", "a", ("fun", "x", Y), ("extend", "b", X, ("fun", "y", Z))))

    def test_examples(self):
        self.reads("fun r => {sum = r.x+1|r}",
                   ("fun", "r", ("extend", "sum", ("op", "+", ("select", "x", name("r")), ("number", 1)), name("r"))))
        self.assertEqual(fault(parse_expression, "let x = 1 2 in"), (7, END))


# For each rule, texts with a wrong token there and texts that end there.
FAULTS = [
    # the beginning of an expression
    ("", 1, END), (" \n ", 1, END), (")", 1, TOKEN), ("in", 1, TOKEN), ("=> x", 1, TOKEN), ("| x", 1, TOKEN),
    ("then", 1, TOKEN), ("else", 1, TOKEN), (".", 1, TOKEN), ("\\x", 1, TOKEN), ("=", 1, TOKEN), ("}", 1, TOKEN),
    # fun
    ("fun", 2, END), ("fun 1", 2, TOKEN), ("fun =>", 2, TOKEN), ("fun (x) => x", 2, TOKEN), ("fun x", 3, END),
    ("fun x x", 3, TOKEN), ("fun x = x", 3, TOKEN), ("fun x =>", 4, END), ("fun x => )", 4, TOKEN),
    ("fun x => x =>", 5, TOKEN),
    # rec
    ("rec", 2, END), ("rec 1", 2, TOKEN), ("rec f", 3, END), ("rec f => f", 3, TOKEN), ("rec f x", 4, END),
    ("rec f x y", 4, TOKEN), ("rec f x =>", 5, END), ("rec f x => =", 5, TOKEN), ("rec f x => x in", 6, TOKEN),
    # let
    ("let", 2, END), ("let 1", 2, TOKEN), ("let x", 3, END), ("let x y", 3, TOKEN), ("let x =", 4, END),
    ("let x = in", 4, TOKEN), ("let x = 1", 5, END), ("let x = 1 )", 5, TOKEN), ("let x = 1 then", 5, TOKEN),
    ("let x = 1 in", 6, END), ("let x = 1 in in", 6, TOKEN), ("let x = 1 in x in", 7, TOKEN),
    # if
    ("if", 2, END), ("if then", 2, TOKEN), ("if x", 3, END), ("if x else", 3, TOKEN), ("if x then", 4, END),
    ("if x then else", 4, TOKEN), ("if x then y", 5, END), ("if x then y then", 5, TOKEN),
    ("if x then y else", 6, END), ("if x then y else else", 6, TOKEN), ("if x then y else z else", 7, TOKEN),
    # comparison
    ("x <", 3, END), ("x ==", 3, END), ("x < <", 3, TOKEN), ("x < y < z", 4, TOKEN), ("x == y == z", 4, TOKEN),
    ("x < y == z", 4, TOKEN), ("x < fun y => y", 3, TOKEN), ("x == let", 3, TOKEN),
    # sum
    ("x +", 3, END), ("x -", 3, END), ("+ x", 1, TOKEN), ("- 1", 1, TOKEN), ("x + - y", 3, TOKEN),
    ("x - if", 3, TOKEN), ("x + rec", 3, TOKEN), ("x + y +", 5, END),
    # application
    ("f fun x => x", 2, TOKEN), ("f x if", 3, TOKEN), ("f =", 2, TOKEN), ("f let", 2, TOKEN), ("f x , y", 3, TOKEN),
    # suffixed
    ("r.", 3, END), ("r\\", 3, END), ("r.1", 3, TOKEN), ("r\\(x)", 3, TOKEN), ("r..a", 3, TOKEN),
    ("r.a\\", 5, END), ("r.a.true", 5, TOKEN),
    # primary
    ("(", 2, END), ("()", 2, TOKEN), ("(x", 3, END), ("(x}", 3, TOKEN), ("(x,", 3, TOKEN), ("(fun x => x", 6, END),
    ("(x))", 4, TOKEN), ("x)", 2, TOKEN), ("((x)", 5, END),
    # braces and fields
    ("{", 2, END), ("{|", 2, TOKEN), ("{1", 2, TOKEN), ("{,", 2, TOKEN), ("{}}", 3, TOKEN), ("{a", 3, END),
    ("{a}", 3, TOKEN), ("{a:", 3, TOKEN), ("{a=", 4, END), ("{a=}", 4, TOKEN), ("{a=1", 5, END),
    ("{a=1)", 5, TOKEN), ("{a=1=", 5, TOKEN), ("{a=1,", 6, END), ("{a=1,}", 6, TOKEN), ("{a=1,|", 6, TOKEN),
    ("{a=1,b", 7, END), ("{a=1|", 6, END), ("{a=1|}", 6, TOKEN), ("{a=1|r", 7, END), ("{a=1|r,", 7, TOKEN),
    ("{a=1|r|", 7, TOKEN), ("{a=1}b=", 7, TOKEN),
]


class Faults(unittest.TestCase):
    def test_tokens_and_ends(self):
        for text, token, reason in FAULTS:
            self.assertEqual(fault(parse_expression, text), (token, reason), text)

    def test_length_of_the_text(self):
        self.assertEqual(parse_expression("1" + " " * 599), ("number", 1))
        for text in ("1" + " " * 600, "$" * 601, "(" * 601, " " * 601, "1 " + "+ 1" * 300):
            self.assertEqual(fault(parse_expression, text), (0, "text too long"), text)
        self.assertEqual(fault(parse_expression, "$" * 600), (1, TOKEN))
        self.assertEqual(fault(parse_expression, " " * 600), (1, END))

    def test_nodes(self):
        largest = "fun x => 1" + " + 1" * 11
        self.assertEqual(len(nodes(parse_expression(largest))), 24)
        self.assertEqual(fault(parse_expression, "1" + " + 1" * 12), (0, "too many nodes"))
        self.assertEqual(fault(parse_expression, "fun x => " + largest), (0, "too many nodes"))
        self.assertEqual(fault(parse_expression, "{" + ", ".join(["a = 1"] * 12) + "}"), (0, "too many nodes"))
        self.assertEqual(fault(parse_expression, "{" + ", ".join(["a = 1"] * 11) + "}"), None)

    def test_other_faults_ahead_of_too_many_nodes(self):
        many = "1" + " + 1" * 30
        self.assertEqual(fault(parse_expression, many + " )"), (62, TOKEN))
        self.assertEqual(fault(parse_expression, many + " +"), (63, END))
        self.assertEqual(fault(parse_expression, "1" + " + 1" * 150), (0, "text too long"))

    def test_fifty_brackets(self):
        self.assertEqual(parse_expression("(" * 50 + "1" + ")" * 50), ("number", 1))
        self.assertEqual(fault(parse_expression, "(" * 50), (51, END))
        self.assertEqual(fault(parse_expression, "{a=" * 50), (151, END))
        self.assertEqual(fault(parse_expression, "{a=" * 50 + "fun a=>" * 60), (331, END))

    def test_by_the_grammar(self):
        rows = [list(row) for many in range(4) for row in itertools.product(ALPHABET, repeat=many)]
        for text in ("fun NAME => NAME", "rec NAME NAME => NUMBER", "let NAME = true in NAME",
                     "if NAME then NUMBER else NAME", "NAME + NAME < NAME . NAME", "( NAME NAME ) == NUMBER",
                     "{ NAME = NUMBER , NAME = { } | NAME }"):
            rows.extend(changed(text.split(), ALPHABET))
        for tokens in rows:
            text = " ".join([SPELLED.get(token, token) for token in tokens])
            self.assertEqual(fault(parse_expression, text), GRAMMAR.verdict(tokens), text)


if __name__ == "__main__":
    unittest.main()
