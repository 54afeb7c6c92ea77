"""The calls: each takes its numbers and its text, and answers a list of whole numbers."""

from secretparts.formulas import all_met
from secretparts.reading import book_of
from secretparts.refusals import OutOfRange, Refusal


def check(text):
    return answered(text, lambda book: [len(book.lets)])


def allowed(form, who, text):
    return answered(text, lambda book: [may(book, form, who)])


def answered(text, ask):
    try:
        return ask(book_of(text))
    except Refusal as refusal:
        return [refusal.number]


def may(book, form, who):
    formula = formula_of(book, form)
    keep_people(book, who)
    return all_met(book, who)[formula]


def formula_of(book, form):
    if form < 0 or form >= len(book.lets):
        raise OutOfRange()
    return book.lets[form]


def keep_people(book, who):
    if who < 0 or (who >> len(book.people)) != 0:
        raise OutOfRange()
