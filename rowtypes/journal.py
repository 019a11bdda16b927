"""Making books again from their journals."""

from rowtypes.books import Book
from rowtypes.errors import BadEdit, BadJournal


def replay(text):
    """The book of a journal, or of a beginning of one; raises BadJournal."""
    book = Book()
    # What stands behind the last newline is cut off somewhere, so it is left out.
    *whole, _ = text.split("\n")
    for place, line in enumerate(whole):
        if not _follows(book, line):
            raise BadJournal(place + 1)
    return book


def _follows(book, line):
    """Whether the line is that of an edit, which the book is then given."""
    try:
        _edit(book, line)
    except BadEdit:
        return False
    # A line in another writing than the book's own is none.
    return book.lines[-1:] == [line]


def _edit(book, line):
    word, _, rest = line.partition(" ")
    if word == "define":
        book.define(_definitions(rest))
    elif word == "remove":
        book.remove(rest)
    elif word == "undo":
        book.undo()


def _definitions(text):
    """The tuple of the pairs (name, text of an expression)."""
    found = []
    for part in text.split(" ; "):
        name, _, written = part.partition(" = ")
        found.append((name, written))
    return tuple(found)
