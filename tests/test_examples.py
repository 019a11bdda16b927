"""The examples of DOC.md, and those of README.md, as they are written."""

import ast
import doctest
import pathlib
import unittest

README = pathlib.Path(__file__).resolve().parent.parent / "README.md"

EXAMPLES = r"""
>>> from rowtypes.explaining import explanation, repairs
>>> from rowtypes.reading import parse_expression
>>> from rowtypes.typetext import type_text
>>> from rowtypes.typings import typed
>>> type_text(typed(parse_expression("fun r => {sum = r.x + r.y | r}"), ())[0])
'{x: number, y: number | a} -> {sum: number, x: number, y: number | a}'
>>> explanation(parse_expression("(fun r => r.x) {y = 1}")), repairs(parse_expression("(fun r => r.x) {y = 1}"))
((0, 1, 2, 3, 4, 6), [(0,), (1,), (2,), (3,), (4,), (6,)])

>>> from rowtypes.reading import parse_expression
>>> from rowtypes.writing import expression_text
>>> parse_expression("fun r => {sum = r.x+1|r}")
('fun', 'r', ('extend', 'sum', ('op', '+', ('select', 'x', ('name', 'r')), ('number', 1)), ('name', 'r')))
>>> expression_text(parse_expression("((fun x=>(x)) ({a=1|{b=(2)}}))\\a"))
'((fun x => x) {a = 1, b = 2})\\a'

>>> from rowtypes.reading import parse_expression
>>> parse_expression("let x = 1 2 in")
raises BadText

>>> from rowtypes.types import told
>>> from rowtypes.typetext import parse_type, type_text
>>> type_text(told((parse_type("c -> {y: b, x: a | r}"),))[0])
'a -> {x: b, y: c | d}'

>>> from rowtypes.typetext import parse_type, type_text
>>> from rowtypes.unifying import unify
>>> [(name, type_text(image)) for name, image in unify(((parse_type("{x: a | r}"), parse_type("{y: number | s}")),))]
[('a', 'a'), ('r', '{y: number | b}'), ('s', '{x: a | b}')]
>>> unify(((parse_type("a"), parse_type("a -> a")),)), unify(((parse_type("{x: a | r}"), parse_type("{y: b | r}")),))
(None, None)

>>> from rowtypes.reading import parse_expression
>>> from rowtypes.typetext import type_text
>>> from rowtypes.typings import typed
>>> [type_text(told) for told in typed(parse_expression("let i = fun x => x in i 1"), ())]
['number', 'a -> a', 'a', 'number', 'number -> number', 'number']
>>> typed(parse_expression("1 2"), ()), typed(parse_expression("1 2"), (0,))
(None, (('var', 'a'), ('number',), ('number',)))

>>> from rowtypes.instances import images, is_instance, meeting
>>> from rowtypes.typetext import parse_type, type_text
>>> is_instance(parse_type("a -> b"), parse_type("a -> a")), is_instance(parse_type("b -> b"), parse_type("a -> a"))
(False, True)
>>> images(parse_type("{y: truth, x: number, z: b}"), parse_type("{x: a | r}"))
(('a', ('number',)), ('r', ('record', (('y', ('truth',)), ('z', ('var', 'b'))), None)))
>>> type_text(meeting(parse_type("{x: a | r} -> a"), parse_type("{y: truth | s} -> number")))
'{x: number, y: truth | a} -> number'

>>> from rowtypes.reading import parse_expression
>>> from rowtypes.running import run
>>> run(parse_expression("(fun r => r.x + 1) {x = 2, y = true}"), (), 100)
('value', 3, ('number', 3))
>>> run(parse_expression("if 1 then 2 else 3"), (), 100)[0], run(parse_expression("(rec f n => f (n + 1)) 0"), (), 9)[:2]
('stuck', ('more', 9))

>>> from rowtypes.explaining import explanation, repairs
>>> from rowtypes.reading import parse_expression
>>> explanation(parse_expression("if 1 then 2 else true")), repairs(parse_expression("if 1 then 2 else true"))
((0, 2, 3), [(0,)])

>>> from rowtypes.reading import parse_expression
>>> from rowtypes.reports import read_report, report
>>> report(parse_expression("{a = 1}.a"))
'0 0 . select a : number\n1 1 . extend a : {a: number}\n2 2 . number 1 : number\n3 2 . empty : {}\n'
>>> report(parse_expression("1 2"))
'0 0 b call : none\n1 1 b number 1 : none\n2 1 . number 2 : none\n'
>>> read_report("0 0 b call : none\n1 1 r number 1 : {| a}\n2 1 . name x : large\n")
(('call', ('number', 1), ('name', 'x')), 'br.', ('none', ('record', (), 'a'), 'large'))

>>> from rowtypes.books import Book
>>> from rowtypes.typetext import type_text
>>> book = Book()
>>> book.define((("even", "fun n => if n == 0 then true else odd (n - 1)"), ("odd", "fun n => if n == 0 then false else even (n - 1)"))), book.define((("id", "fun x => x"),))
(['even', 'odd'], ['id'])
>>> type_text(book.type_of("odd")), book.rings(), book.run("id even 3", 99)[2], type_text(book.ask("id {a = id}"))
('number -> truth', [('even', 'odd'), ('id',)], ('truth', False), '{a: a -> a}')
"""


def outcome(source, names):
    """What a line of an example shows."""
    if not isinstance(ast.parse(source).body[0], ast.Expr):
        exec(source, names)
        return ""
    try:
        found = eval(source, names)
    except ValueError as why:
        return "raises " + type(why).__name__ + "\n"
    return "" if found is None else repr(found) + "\n"


class Examples(unittest.TestCase):
    def follow(self, text):
        names = {}
        examples = doctest.DocTestParser().get_examples(text)
        for example in examples:
            self.assertEqual(outcome(example.source, names), example.want, example.source)
        return len(examples)

    def test_the_document(self):
        many = [self.follow(block) for block in EXAMPLES.split("\n\n")]
        self.assertEqual(len(many), 11)
        self.assertEqual(sum(many), EXAMPLES.count(">>> "))

    def test_readme(self):
        parts = README.read_text(encoding="utf-8").split("```")
        many = [self.follow(part) for part in parts if part.startswith("\n>>> ")]
        self.assertEqual(len(many), 1)
        self.assertGreater(many[0], 30)


if __name__ == "__main__":
    unittest.main()
