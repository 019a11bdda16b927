import copy
import random
import unittest

from rowtypes.errors import BadText, TooLarge
from rowtypes.explaining import explanation, repairs
from rowtypes.expressions import nodes
from rowtypes.reading import parse_expression
from rowtypes.reports import read_report, report
from rowtypes.types import symbols
from rowtypes.typetext import parse_type, type_text
from rowtypes.typings import typed
from tests.helpers import fault, some_expression, some_lets

# A node of each kind, at several depths.
ALL_KINDS = """
rec f x => let y = {a = 1} in if f x < 2 then y.a else (fun z => 3) ({l = true}\\l)
"""

DOUBLING = "let d = fun x => {l = x, m = x} in d (d (d (d (d (d 1)))))"

# The lines of reports that are read, as they are written.
READ = """
0 0 . number 0 : number
0 0 b number 999999 : a -> a
0 0 e truth true : {| a}
0 0 r truth false : none
0 0 . name abcdef : large
0 0 . name none : none -> large
0 0 . name number : {number: truth, a: {truth: number | fun}}
0 0 . empty : {b: a, a: b, b: (a -> b) -> a | c}
"""

# Single lines that have not the form.
WRONG = """
0
0 0
0 0 .
0 0 . empty
0 0 . empty :
0 0 . empty:{}
0 0 . empty: {}
0 0 . empty :{}
0 0 empty : {}
0 . empty : {}
. empty : {}
0 0 . : {}
0 0 .  : {}
0 0 . empty : : {}
0 0 . empty : {} :
0 0 . empty : {} : {}
00 0 . empty : {}
0 00 . empty : {}
+0 0 . empty : {}
0 -0 . empty : {}
1 0 . empty : {}
0 1 . empty : {}
0 a . empty : {}
0 0 a empty : {}
0 0 be empty : {}
0 0 .b empty : {}
0 0 B empty : {}
0 0 - empty : {}
0 0 . Empty : {}
0 0 . empties : {}
0 0 . nothing : {}
0 0 . empty 1 : {}
0 0 . empty x : {}
0 0 . number : number
0 0 . number x : number
0 0 . number 00 : number
0 0 . number 01 : number
0 0 . number 1000000 : number
0 0 . number -1 : number
0 0 . number +1 : number
0 0 . number 1_0 : number
0 0 . number 1.0 : number
0 0 . number 1 2 : number
0 0 . number true : number
0 0 . truth : truth
0 0 . truth 1 : truth
0 0 . truth True : truth
0 0 . truth x : truth
0 0 . truth true false : truth
0 0 . name : a
0 0 . name x y : a
0 0 . name 1 : a
0 0 . name X : a
0 0 . name abcdefg : a
0 0 . name x1 : a
0 0 . name fun : a
0 0 . name rec : a
0 0 . name let : a
0 0 . name in : a
0 0 . name if : a
0 0 . name then : a
0 0 . name else : a
0 0 . name true : a
0 0 . name false : a
0 0 . empty : Number
0 0 . empty : None
0 0 . empty : none none
0 0 . empty : nones nones
0 0 . empty : abcdefg
0 0 . empty : 1
0 0 . empty : (a)
0 0 . empty : a->b
0 0 . empty : a ->b
0 0 . empty : a  -> b
0 0 . empty : a -> (b -> c)
0 0 . empty : (a) -> b
0 0 . empty : a ->
0 0 . empty : { }
0 0 . empty : {a:b}
0 0 . empty : {a : b}
0 0 . empty : {a: b,c: d}
0 0 . empty : {a: b , c: d}
0 0 . empty : {a: b|c}
0 0 . empty : {a: b| c}
0 0 . empty : {|c}
0 0 . empty : { | c}
0 0 . empty : {| number}
0 0 . empty : {a: b
0 0 . empty : a -> {| a}
"""

# Two lines of which the second one is wrong: heads that ask for one child or more.
WRONG_BEHIND = """
0 0 . fun x : a|1 1 . name fun : a
0 0 . fun x : a|1 0 . name x : a
0 0 . fun x : a|1 2 . name x : a
0 0 . fun x : a|0 1 . name x : a
0 0 . fun x : a|2 1 . name x : a
0 0 . fun x : a|01 1 . name x : a
0 0 . fun x : a|1 01 . name x : a
0 0 . fun x : a|1  1 . name x : a
0 0 . fun x : a|1 1 . fun : a
0 0 . fun x : a|1 1 . fun x y : a
0 0 . fun x : a|1 1 . fun then : a
0 0 . fun x : a|1 1 . rec f : a
0 0 . fun x : a|1 1 . rec f x y : a
0 0 . fun x : a|1 1 . rec f else : a
0 0 . fun x : a|1 1 . rec in x : a
0 0 . fun x : a|1 1 . call x : a
0 0 . fun x : a|1 1 . let : a
0 0 . fun x : a|1 1 . let x y : a
0 0 . fun x : a|1 1 . let false : a
0 0 . fun x : a|1 1 . if true : a
0 0 . fun x : a|1 1 . op : a
0 0 . fun x : a|1 1 . op * : a
0 0 . fun x : a|1 1 . op = : a
0 0 . fun x : a|1 1 . op +- : a
0 0 . fun x : a|1 1 . op + - : a
0 0 . fun x : a|1 1 . extend : a
0 0 . fun x : a|1 1 . extend l m : a
0 0 . fun x : a|1 1 . extend rec : a
0 0 . fun x : a|1 1 . select : a
0 0 . fun x : a|1 1 . select 1 : a
0 0 . fun x : a|1 1 . select true : a
0 0 . fun x : a|1 1 . drop : a
0 0 . fun x : a|1 1 . drop let : a
0 0 . fun x : a|1 1 . drop l l : a
0 0 . number 1 : number|1 1 . number 2 : number
0 0 . number 1 : number|1 0 . number 2 : number
"""


def lines(table):
    return [line for line in table.replace("\\\\", "\\").splitlines() if line]


def written(expression, marks, types):
    """The report with these marks and types, whatever stands in them; another way of writing it."""
    found = []

    def visit(node, depth):
        own = [str(part).lower() if isinstance(part, bool) else str(part)
               for part in node if not isinstance(part, tuple)]
        at = len(found)
        text = types[at] if isinstance(types[at], str) else type_text(types[at])
        found.append(f"{at} {depth} {marks[at]} {' '.join(own)} : {text}\n")
        for part in node:
            if isinstance(part, tuple):
                visit(part, depth + 1)

    visit(expression, 0)
    return "".join(found)


def refusal(text):
    return fault(read_report, text)


def some_read_type(source, size=4):
    if size == 0 or source.random() < 0.3:
        return source.choice([("number",), ("truth",), ("var", "a"), ("var", "in"), ("record", (), "r")])
    if source.random() < 0.5:
        return ("fun", some_read_type(source, size - 1), some_read_type(source, size - 1))
    fields = tuple([(source.choice(["a", "b", "number"]), some_read_type(source, size - 1))
                    for _ in range(source.randint(0, 2))])
    return ("record", fields, source.choice([None, "r", "none"]))


class Told(unittest.TestCase):
    def tells(self, text, *wanted):
        self.assertEqual(report(parse_expression(text)), "".join([line + "\n" for line in wanted]), text)

    def test_examples(self):
        self.assertEqual(report(parse_expression("{a = 1}.a")), "0 0 . select a : number\n1 1 . extend a : "
                         "{a: number}\n2 2 . number 1 : number\n3 2 . empty : {}\n")
        self.assertEqual(report(parse_expression("1 2")),
                         "0 0 b call : none\n1 1 b number 1 : none\n2 1 . number 2 : none\n")

    def test_heads_and_depths(self):
        self.tells("5", "0 0 . number 5 : number")
        self.tells("0", "0 0 . number 0 : number")
        self.tells("true", "0 0 . truth true : truth")
        self.tells("false", "0 0 . truth false : truth")
        self.tells("{}", "0 0 . empty : {}")
        self.tells("x", "0 0 b name x : none")
        self.tells("fun x => x", "0 0 . fun x : a -> a", "1 1 . name x : a")
        self.tells("rec f x => f x", "0 0 . rec f x : a -> b", "1 1 . call : b", "2 2 . name f : a -> b",
                   "3 2 . name x : a")
        self.tells("let x = 1 in x", "0 0 . let x : number", "1 1 . number 1 : number", "2 1 . name x : number")
        self.tells("if true then 1 else 2", "0 0 . if : number", "1 1 . truth true : truth",
                   "2 1 . number 1 : number", "3 1 . number 2 : number")
        for sign, kind in (("+", "number"), ("-", "number"), ("<", "truth"), ("==", "truth")):
            self.tells(f"1 {sign} 2", f"0 0 . op {sign} : {kind}", "1 1 . number 1 : number",
                       "2 1 . number 2 : number")
        self.tells("fun r => {l = 1 | r}.m", "0 0 . fun r : {m: a | b} -> a", "1 1 . select m : a",
                   "2 2 . extend l : {l: number, m: a | b}", "3 3 . number 1 : number", "4 3 . name r : {m: a | b}")
        self.tells("fun r => r\\l", "0 0 . fun r : {l: a | b} -> {| b}", "1 1 . drop l : {| b}",
                   "2 2 . name r : {l: a | b}")

    def test_all_kinds_in_one(self):
        expression = parse_expression(lines(ALL_KINDS)[0])
        self.assertEqual(len({node[0] for node in nodes(expression)}), 13)
        found = [line.split(" ") for line in report(expression).splitlines()]
        self.assertEqual([line[0] for line in found], [str(number) for number in range(len(nodes(expression)))])
        self.assertEqual(" ".join([line[1] for line in found]), "0 1 2 3 3 2 3 4 5 5 4 3 4 3 4 5 4 5 6 6")
        self.assertEqual([line[2] for line in found], ["."] * len(found))

    def test_each_mark(self):
        self.tells("if 1 then 2 else true", "0 0 b if : none", "1 1 . number 1 : none", "2 1 e number 2 : none",
                   "3 1 e truth true : none")
        self.tells("1 2 + (3 4)", "0 0 . op + : none", "1 1 r call : none", "2 2 r number 1 : none",
                   "3 2 . number 2 : none", "4 1 b call : none", "5 2 b number 3 : none", "6 2 . number 4 : none")
        self.tells("x y + z", "0 0 . op + : none", "1 1 . call : none", "2 2 . name x : none", "3 2 . name y : none",
                   "4 1 e name z : none")
        self.tells("if true then 1 else 2", "0 0 . if : number", "1 1 . truth true : truth",
                   "2 1 . number 1 : number", "3 1 . number 2 : number")

    def test_too_large(self):
        expression = parse_expression(DOUBLING)
        with self.assertRaises(TooLarge):
            typed(expression, ())
        found = report(expression).splitlines()
        self.assertEqual(len(found), len(nodes(expression)))
        for line in found:
            self.assertEqual(line.split(" ")[2], ".")
            self.assertTrue(line.endswith(" : large"), line)
        # All of an expression with a type that is too large has none if another part has none.
        found = report(("call", ("number", 1), expression)).splitlines()
        self.assertEqual([line[-7:] for line in found], [" : none"] * (1 + 1 + len(nodes(expression))))

    def test_against_what_is_told(self):
        source = random.Random(41)
        signs = {sign: 0 for sign in ".ber"}
        for _ in range(1200):
            expression = some_expression(source, source.randint(1, 14), [])
            needed, mending = explanation(expression), repairs(expression)
            try:
                types = typed(expression, ())
            except TooLarge:
                types = ["large"] * len(nodes(expression))
            types = ["none"] * len(nodes(expression)) if types is None else types
            marks = ""
            for number in range(len(nodes(expression))):
                mends = any(number in repair for repair in mending)
                marks += {(True, True): "b", (True, False): "e", (False, True): "r",
                          (False, False): "."}[needed is not None and number in needed, mends]
            for sign in marks:
                signs[sign] += 1
            self.assertEqual(report(expression), written(expression, marks, types))
        self.assertGreater(min(signs.values()), 50)


class Read(unittest.TestCase):
    def test_example(self):
        found = read_report("0 0 b call : none\n1 1 r number 1 : {| a}\n2 1 . name x : large\n")
        self.assertEqual(found, (("call", ("number", 1), ("name", "x")), "br.",
                                 ("none", ("record", (), "a"), "large")))
        self.assertIsInstance(found[2], tuple)

    def test_what_report_tells(self):
        source = random.Random(42)
        texts = lines(ALL_KINDS) + [DOUBLING, "1 2 + (3 4)", "x", "if 1 then 2 else true"]
        expressions = [parse_expression(text) for text in texts]
        expressions += [some_expression(source, source.randint(1, 20), []) for _ in range(300)]
        expressions += [some_lets(source, source.randint(5, 24), []) for _ in range(300)]
        for expression in expressions:
            text = report(expression)
            found, marks, types = read_report(text)
            self.assertEqual(found, expression)
            self.assertEqual(marks, "".join([line.split(" ")[2] for line in text.splitlines()]))
            try:
                told = typed(expression, ())
                self.assertEqual(types, told if told is not None else ("none",) * len(types))
            except TooLarge:
                self.assertEqual(types, ("large",) * len(types))

    def test_any_marks_and_types(self):
        source = random.Random(43)
        for _ in range(500):
            expression = some_expression(source, source.randint(1, 20), ["x"])
            many = len(nodes(expression))
            marks = "".join([source.choice(".ber") for _ in range(many)])
            types = tuple([source.choice(["none", "large", some_read_type(source), some_read_type(source)])
                           for _ in range(many)])
            self.assertEqual(read_report(written(expression, marks, types)), (expression, marks, types))

    def test_single_lines(self):
        for line in lines(READ):
            expression, marks, types = read_report(line + "\n")
            self.assertEqual(written(expression, marks, types), line + "\n")
        self.assertEqual(read_report("0 0 . name none : none -> large\n"),
                         (("name", "none"), ".", (parse_type("none -> large"),)))
        self.assertEqual(read_report("0 0 . name x : nones\n")[2], (("var", "nones"),))

    def test_more_nodes_than_texts_of_expressions_have(self):
        expression = ("empty",)
        for _ in range(20):
            expression = ("extend", "l", ("number", 1), expression)
        self.assertEqual(read_report(report(expression))[0], expression)

    def test_arguments_stay(self):
        expression = parse_expression("{a = 1 2}.a")
        ahead = copy.deepcopy(expression)
        report(expression)
        self.assertEqual(expression, ahead)


class Refused(unittest.TestCase):
    def test_single_lines(self):
        for line in lines(WRONG) + [" 0 0 . empty : {}", "0 0 . empty : {} ", "0  0 . empty : {}", "0 0  . empty : {}",
                                    "0 0 .  empty : {}", "0 0 . empty  : {}", "0 0 . empty :  {}", "0 0 . number  1 : a",
                                    "0 0 . number 1  : a", "0\t0 . empty : {}", "0 0 . empty : {}\r", "", " ", "\t"]:
            self.assertEqual(refusal(line + "\n"), (1, "unexpected line"), line)

    def test_second_lines(self):
        for row in lines(WRONG_BEHIND):
            one, other = row.split("|", 1)
            if "number 1" not in one:
                self.assertEqual(refusal(one + "\n"), (2, "unexpected end"), one)
            self.assertEqual(refusal(one + "\n" + other + "\n"), (2, "unexpected line"), row)

    def test_no_other_digits_or_letters(self):
        for line in ("0 0 . number \u0663 : number", "0 0 . number \u00b2 : number", "\u0660 0 . empty : {}",
                     "0 0 . name \u00e4 : a", "0 0 . empty : \u00e4", "0 0 . empty : {}\u2028", "0 0\u00a0. empty : {}"):
            self.assertEqual(refusal(line + "\n"), (1, "unexpected line"), line)

    def test_sizes_of_types(self):
        # 200 symbols: the record, 99 fields and their types, and the end.
        exact = "{" + ", ".join(["a: b"] * 99) + " | c}"
        self.assertEqual(symbols(parse_type(exact)), 200)
        self.assertEqual(read_report(f"0 0 . empty : {exact}\n")[2], (parse_type(exact),))
        larger = "{" + ", ".join(["a: b"] * 100) + "}"
        self.assertLessEqual(len(larger), 600)
        self.assertEqual(refusal(f"0 0 . empty : {larger}\n"), (1, "unexpected line"))

    def test_the_end(self):
        self.assertEqual(refusal(""), (1, "unexpected end"))
        self.assertEqual(refusal("\n"), (1, "unexpected line"))
        self.assertEqual(refusal("0 0 . empty : {}\n\n"), (2, "unexpected line"))
        self.assertEqual(refusal("0 0 . empty : {}\n0 0 . empty : {}\n"), (2, "unexpected line"))
        self.assertEqual(refusal("0 0 . empty : {}"), (1, "unexpected line"))
        self.assertEqual(refusal("0 0 . empty : {}\n "), (2, "unexpected line"))
        self.assertEqual(refusal("0 0 . fun x : a\n1 1 . name x : a"), (2, "unexpected line"))
        self.assertEqual(refusal("0 0 . fun x : a\n1"), (2, "unexpected line"))

    def test_lines_that_are_missing(self):
        for text in lines(ALL_KINDS) + ["{a = 1, b = 2 | {c = 3}}", "if x then y else z", "let x = 1 in x", "f x", "1 + 2",
                                        "fun x => x", "rec f x => x", "r.l", "r\\l"]:
            whole = report(parse_expression(text)).splitlines(True)
            for many in range(len(whole)):
                self.assertEqual(refusal("".join(whole[:many])), (many + 1, "unexpected end"), text)
            for extra in (whole[-1], whole[0], f"{len(whole)} 0 . empty : none\n", f"{len(whole)} 1 . empty : none\n"):
                self.assertEqual(refusal("".join(whole) + extra), (len(whole) + 1, "unexpected line"), text)

    def test_the_first_wrong_line(self):
        text = "0 0 . call : a\n1 1 . empty : {}\n2 2 . empty : {}\n3 2 x empty : {}\n"
        self.assertEqual(refusal(text), (3, "unexpected line"))

    def test_changed_reports(self):
        # Whatever is read is written so again.
        source = random.Random(44)
        signs = "01289 .:bernafuxltp{}|,->+=<()\n\\"
        found = {True: 0, False: 0}
        for _ in range(6000):
            text = report(some_expression(source, source.randint(1, 6), ["x"]))
            for _ in range(source.choice([1, 1, 2])):
                at = source.randrange(len(text))
                text = text[:at] + source.choice([source.choice(signs), "", text[at] * 2]) + text[at + 1:]
            try:
                expression, marks, types = read_report(text)
                self.assertEqual(written(expression, marks, types), text)
                found[True] += 1
            except BadText as why:
                place, reason = why.token, why.reason
                self.assertIn(reason, ("unexpected line", "unexpected end"))
                self.assertTrue(1 <= place <= len(text.split("\n")))
                found[False] += 1
        self.assertGreater(min(found.values()), 300)

    def test_moved_lines(self):
        source = random.Random(45)
        for _ in range(500):
            whole = report(some_expression(source, source.randint(3, 12), ["x"])).splitlines(True)
            one, other = sorted(source.sample(range(len(whole)), 2))
            whole[one], whole[other] = whole[other], whole[one]
            self.assertEqual(refusal("".join(whole)), (one + 1, "unexpected line"))

    def test_changed_depths(self):
        source = random.Random(46)
        for _ in range(500):
            whole = report(some_expression(source, source.randint(3, 12), ["x"])).splitlines(True)
            at = source.randrange(len(whole))
            number, depth, rest = whole[at].split(" ", 2)
            depth = source.choice([other for other in range(6) if str(other) != depth])
            whole[at] = f"{number} {depth} {rest}"
            self.assertEqual(refusal("".join(whole)), (at + 1, "unexpected line"))


if __name__ == "__main__":
    unittest.main()
