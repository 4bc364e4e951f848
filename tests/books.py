"""Help for tests of the workbook."""

from usescale.errors import NameMissing, UsescaleError
from usescale.tallies import MostTally
from usescale.workbook import Workbook


def book_of(scale=None, limit=2000, **texts):
    """A book in which the texts are defined in their order."""
    book = Workbook(scale or MostTally(), limit)
    for name, text in texts.items():
        book[name] = text
    return book


def told_book(book):
    """All that a book tells of itself."""
    names = book.names()
    return (book.scale.label, book.limit, len(book), names, [book[name] for name in names],
            [book.kind_of(name) for name in names], [book.term_of(name) for name in names])


def made_anew(book):
    """A new book of the scale and limit in which the texts are defined in the order of the row."""
    found = Workbook(book.scale, book.limit)
    for name in book.names():
        found[name] = book[name]
    return found


def error_of(act):
    """The error that an act raises."""
    try:
        act()
    except (UsescaleError, NameMissing) as error:
        return error
    raise AssertionError("no error was raised")


def told_of(error):
    """An error with its attributes and those of the error that it was raised from."""
    found = [(type(error).__name__, vars(error))]
    if error.__cause__ is not None:
        found.append((type(error.__cause__).__name__, vars(error.__cause__)))
    return found


def tree(leaves, leaf="1"):
    """The text of a flat sum of so many leaves; it has a size of 2 * leaves - 1."""
    if leaves == 1:
        return leaf
    half = leaves // 2
    return f"(add {tree(half, leaf)} {tree(leaves - half, leaf)})"


def nested(times, inner):
    """The text of a term that stands so many terms deeper than the inner one."""
    return "(as int " * times + inner + ")" * times
