"""A whole text read into a book, or refused."""

from secretparts.book import Book
from secretparts.brackets import read_formula
from secretparts.limits import keep_limits
from secretparts.reader import Reader
from secretparts.refusals import OutOfRange
from secretparts.tokens import END, tokens_of

LONGEST_TEXT = 65536


def book_of(text):
    if len(text) > LONGEST_TEXT:
        raise OutOfRange()
    reader = Reader(tokens_of(text))
    book = Book(read_field(reader))
    read_people(reader, book)
    while reader.now().word == "let":
        read_let(reader, book)
    reader.take(reader.now().kind == END)
    keep_limits(book)
    return book


def read_field(reader):
    reader.take_written("field")
    prime = reader.take_prime()
    reader.take_written(";")
    return prime


def read_people(reader, book):
    reader.take_written("who")
    book.add_person(reader.take_new_name(book.names))
    while reader.now().word == ",":
        reader.take_written(",")
        book.add_person(reader.take_new_name(book.names))
    reader.take_written(";")


# The name is known only behind the formula: a let does not name itself.
def read_let(reader, book):
    reader.take_written("let")
    name = reader.take_new_name(book.names)
    reader.take_written("=")
    formula = read_formula(reader, book)
    reader.take_written(";")
    book.add_let(name, formula)
