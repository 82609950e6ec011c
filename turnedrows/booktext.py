"""The written form of a book, and the book that a text says (point 7.2)."""

from turnedrows.book import Book
from turnedrows.errors import InvalidBody, InvalidName, InvalidText, TooMany
from turnedrows.text import read_body, write_body


def written_line(name, body):
    """The line of a name and its body."""
    return f"{name}: {write_body(body)}" if body.n > 0 else f"{name}:"


def write_book(book):
    """The written form of a book."""
    return "\n".join([written_line(name, book.body(name)) for name in book.names()])


def put_line(book, line):
    """Puts into a book what a line says. InvalidText if it says no further name and its body."""
    name, colon, told = line.partition(":")
    if colon == "" or name in book.names():
        raise InvalidText("each line has a name of its own, a colon and a body")
    body = read_body(told)
    try:
        book.put(name, body)
    except (InvalidName, InvalidBody, TooMany):
        raise InvalidText("a line has no name, a body of another number of pieces, or is the 31st one") from None


def read_book(n, text):
    """The book of bodies of n pieces that a text says. OutOfRange if n is not 0 to 40, otherwise InvalidText."""
    book = Book(n)
    lines = text.split("\n") if text != "" else []
    for line in lines:
        put_line(book, line)
    book.forget()
    return book
