import random
import unittest

from rowtypes.books import Book
from rowtypes.errors import BadEdit, BadJournal, RowError
from rowtypes.journal import replay
from tests.test_books import given, made, reason, state

# Edits of all three kinds, some of one definition and some of several; those with a mark are refused.
EDITS = ["a = fun x=>b(x) ; b = fun x => a x", "c = {l=(1), m = true}.l ; a = (fun x=>x)", "! d = e", "- b", "undo", "undo",
         "c = a 1", "! a = 1", "e = c ; a = fun y => y", "! - c", "undo", "undo", "! z1 = 1", "undo", "! undo",
         "f = if true then rec g x => g x else fun y=>{l = y|{}}.l", "! h = rec f x => f x",
         "a = rec g y => (let x = y in if true then (g x) else {l = x | {}}\\l)", "c = (2 - 1) - (0)", "- a", "undo"]

JOURNAL = """
define a = fun x => b x ; b = fun x => a x
define c = {l = 1, m = true}.l ; a = fun x => x
remove b
undo
undo
define c = a 1
define e = c ; a = fun y => y
undo
undo
undo
define f = if true then rec g x => g x else fun y => {l = y}.l
define a = rec g y => let x = y in if true then g x else {l = x}\\l
define c = 2 - 1 - 0
remove a
undo
"""

# A line of each kind for each of its writings, in a book with a = 1.
WRONG_LINES = """
define
define_
define_a
define a=1
define a =1
define a= 1
define a =_
define a = 1_
define_ a = 1
_define a = 1
define  a = 1
define a  = 1
define a =  1
define a = (1)
define a = 1+1
define a = 1 +1
define a = fun x=>x
define a = {l = 1 | {}}
define a = {l = 1 | {m = 2}}
define a = {l=1}
define a = {}.l
define a = 01
define a = 1;b = 2
define a = 1 ;b = 2
define a = 1; b = 2
define a = 1 ; b = 2 ;
define a = 1 ;_
define a = 1 ; b
define a = 1 ;  b = 2
define a = 1  ; b = 2
define ; a = 1
define a = 1 ; a = 2
define a = 1 ; define b = 2
define a = 1, b = 2
define a = b
define a = 1 2
define a = fun a => 1
define 1 = 1
define in = 1
define A = 1
define abcdefg = 1
Define a = 1
defines a = 1
a = 1
remove
remove_
remove b
remove  a
remove a_
_remove a
remove a b
remove a ; b
remove A
Remove a
undo_
_undo
undo a
Undo
undone
redo
#
_
"""


def wrong_line(text):
    """The number that is told of the journal, None if it is read."""
    try:
        replay(text)
    except BadJournal as why:
        return why.place
    return None


def stages():
    """The states behind the edits that are not refused, the first one of a new book, and the book."""
    book = Book()
    found = [state(book)]
    for edit in EDITS:
        if edit[0] == "!":
            assert reason(book, edit[2:]) is not None, edit
        else:
            given(book, edit)
            found.append(state(book))
    return found, book


class Lines(unittest.TestCase):
    def test_each_kind(self):
        self.assertEqual(Book().journal(), "")
        self.assertEqual(made("a = 1").journal(), "define a = 1\n")
        self.assertEqual(made("a = 1 ; b = a").journal(), "define a = 1 ; b = a\n")
        self.assertEqual(made("b = 1 ; a = b ; c = 2").journal(), "define b = 1 ; a = b ; c = 2\n")
        self.assertEqual(made("a = 1", "- a").journal(), "define a = 1\nremove a\n")
        self.assertEqual(made("a = 1", "undo").journal(), "define a = 1\nundo\n")
        self.assertEqual(made("a = 1", "a = 1", "undo", "undo").journal(), "define a = 1\ndefine a = 1\nundo\nundo\n")

    def test_written_forms(self):
        book = made("a = ((fun x=>(x)) ({a=1|{b=(2)}}))\\a", "b=let y=1+2 in if(y<3)then{}else{}")
        self.assertEqual(book.journal(), "define a = ((fun x => x) {a = 1, b = 2})\\a\n"
                         "define b = let y = 1 + 2 in if y < 3 then {} else {}\n")
        book = Book()
        book.define((("a", "\n 1\n+ 2 \n"),))
        self.assertEqual(book.journal(), "define a = 1 + 2\n")

    def test_refused_edits_have_none(self):
        book = made("a = 1")
        for edit in ("b = z", "a = 1 2", "- b", "b1 = 1", "b = 1 ; b = 2", "b = ("):
            with self.assertRaises(BadEdit):
                given(book, edit)
        self.assertEqual(book.journal(), "define a = 1\n")
        given(book, "undo")
        with self.assertRaises(BadEdit):
            given(book, "undo")
        self.assertEqual(book.journal(), "define a = 1\nundo\n")

    def test_all_kinds(self):
        found, book = stages()
        self.assertEqual(book.journal(), JOURNAL[1:])
        self.assertEqual([told[3].count("\n") for told in found], list(range(16)))


class Replay(unittest.TestCase):
    def test_whole_journals(self):
        _, book = stages()
        found = replay(book.journal())
        self.assertIsInstance(found, Book)
        self.assertEqual(state(found), state(book))
        self.assertEqual(state(replay("")), state(Book()))

    def test_cut_at_every_character(self):
        found, book = stages()
        text = book.journal()
        for at in range(len(text) + 1):
            again = replay(text[:at])
            self.assertEqual(state(again), found[text[:at].count("\n")], text[:at])

    def test_going_on(self):
        # What was undone, and what can be undone, is as it was, too.
        found, book = stages()
        text = book.journal()
        lines = text.splitlines(True)
        for many in range(len(lines) + 1):
            again = replay("".join(lines[:many]) + "define cut")
            for line in lines[many:]:
                words = line.rstrip("\n")
                given(again, words.replace("define ", "", 1).replace("remove ", "- ", 1))
            self.assertEqual(state(again), state(book))
            undone = 0
            while again.definitions():
                again.undo()
                undone += 1
            self.assertLess(undone, 10)

    def test_what_is_cut_off_can_be_anything(self):
        for rest in ("x", "define a = z", "remove b", "undo ", " ", "define a = 1 2"):
            self.assertEqual(state(replay("define a = 1\n" + rest)), state(made("a = 1")))

    def test_lines_that_are_none(self):
        self.assertEqual(wrong_line("define a = 1\n"), None)
        for line in [line.replace("_", " ") for line in WRONG_LINES.strip().splitlines()] + ["", "undo\r", "\tundo"]:
            self.assertEqual(wrong_line("define a = 1\n" + line + "\n"), 2, line)
            self.assertEqual(wrong_line("define a = 1\n" + line + "\nundo\n"), 2, line)
            self.assertEqual(wrong_line("define a = 1\ndefine b = 2\n" + line.replace("b", "c") + "\n"), 3, line)

    def test_the_first_wrong_line(self):
        self.assertEqual(wrong_line("\n"), 1)
        self.assertEqual(wrong_line("undo\n"), 1)
        self.assertEqual(wrong_line("remove a\n"), 1)
        self.assertEqual(wrong_line("define a = 1\nundo\nundo\n"), 3)
        self.assertEqual(wrong_line("define a = 1\nremove a\nremove a\n"), 3)
        self.assertEqual(wrong_line("define a = 1\n\ndefine b = z\n"), 2)
        self.assertEqual(wrong_line("define a = 1\ndefine b = z\n\n"), 2)
        self.assertEqual(wrong_line("define a = 1\ndefine b = a 1\nx\n"), 2)
        self.assertEqual(wrong_line("define a = 1\ndefine b = a\nremove a\n"), 3)
        many = "define a = 1 ; b = 2 ; c = 3 ; d = 4 ; e = 5 ; f = 6\n"
        self.assertEqual(wrong_line(many), None)
        self.assertEqual(wrong_line(many + "define g = 7\n"), 2)

    def test_the_error(self):
        with self.assertRaises(RowError) as caught:
            replay("undo\n")
        self.assertEqual(caught.exception.place, 1)

    def test_lines_that_are_written_otherwise(self):
        # A text of an expression in another writing is an edit, but no line of a journal.
        for text in ("(1)", "1 ", "1+1", "fun x=>x", "{l = 1 | {m = 2}}", "{l=1}", "if true then(1)else 2", "1 - (2)"):
            self.assertEqual(len(made("a = 2").define((("b", text),))), 1)
            self.assertEqual(wrong_line("define a = 2\ndefine b = " + text + "\n"), 2, text)

    def test_changed_journals(self):
        # Whatever is read is the journal of the book that is told.
        source = random.Random(61)
        _, book = stages()
        lines = book.journal().splitlines(True)
        found = {True: 0, False: 0}
        for _ in range(3000):
            text = "".join(lines[:source.randint(1, 6)])
            at = source.randrange(len(text))
            text = text[:at] + source.choice([source.choice("ab12 =;+(){}.\n"), "", text[at] * 2]) + text[at + 1:]
            place = wrong_line(text)
            whole = text[:text.rfind("\n") + 1]
            if place is None:
                self.assertEqual(replay(text).journal(), whole)
            else:
                ahead = "".join(whole.splitlines(True)[:place - 1])
                self.assertEqual(replay(ahead).journal(), ahead)
                self.assertTrue(1 <= place <= whole.count("\n"))
            found[place is None] += 1
        self.assertGreater(min(found.values()), 50)


if __name__ == "__main__":
    unittest.main()
