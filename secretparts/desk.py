"""The calls: each takes its numbers and its text, and answers a list of whole numbers."""

from secretparts.agreeing import opened
from secretparts.dealing import parts_dealt
from secretparts.formulas import all_met
from secretparts.mending import mended
from secretparts.people import are_same, least_of
from secretparts.reading import book_of
from secretparts.refusals import OutOfRange, Refusal, TooMany
from secretparts.telling import bytes_told

MOST_NUMBERS = 64


def check(text):
    return answered(True, text, lambda book: [len(book.lets)])


def allowed(form, who, text):
    return answered(True, text, lambda book: [may(book, form, who)])


def least(form, most, text):
    return answered(
        most >= 0, text,
        lambda book: no_more(most, least_of(book, formula_of(book, form))))


def told(form, turned, most, text):
    return answered(
        most >= 0, text,
        lambda book: no_more(most, bytes_told(book, formula_of(book, form), turned != 0)))


def deal(form, secret, text, chance):
    return answered(
        len(chance) <= MOST_NUMBERS, text,
        lambda book: counted(parts_dealt(book, formula_of(book, form), secret, chance)))


def open_by(form, who, text, parts):
    return answered(
        len(parts) <= MOST_NUMBERS, text,
        lambda book: [opened_by(book, form, who, parts)])


def mend(form, text, parts):
    return answered(
        len(parts) <= MOST_NUMBERS, text,
        lambda book: mended(book, formula_of(book, form), parts))


def same(form, other, text):
    return answered(
        True, text,
        lambda book: [are_same(book, formula_of(book, form), formula_of(book, other))])


# The book is asked only where the numbers handed in are in range: that comes ahead of a wrong text.
def answered(in_range, text, ask):
    try:
        if not in_range:
            raise OutOfRange()
        return ask(book_of(text))
    except Refusal as refusal:
        return [refusal.number]


def no_more(most, numbers):
    if len(numbers) > most:
        raise TooMany()
    return counted(numbers)


def counted(numbers):
    return [len(numbers)] + numbers


def may(book, form, who):
    formula = formula_of(book, form)
    keep_people(book, who)
    return all_met(book, who)[formula]


def opened_by(book, form, who, parts):
    formula = formula_of(book, form)
    keep_people(book, who)
    return opened(book, formula, who, parts)


def formula_of(book, form):
    if form < 0 or form >= len(book.lets):
        raise OutOfRange()
    return book.lets[form]


def keep_people(book, who):
    if who < 0 or (who >> len(book.people)) != 0:
        raise OutOfRange()
