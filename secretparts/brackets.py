"""A formula read by a loop: open brackets are a list, so they may nest as deep as they like."""

from secretparts.tokens import NUMBER


# What has been read within one open bracket; asked is 0 where it is a plain one.
class Bracket:
    def __init__(self, asked):
        self.asked = asked
        self.formulas = []
        self.boths = []
        self.parts = []

    def end_both(self, book):
        self.boths.append(joined(book, len(self.parts), self.parts))
        self.parts = []

    def end_formula(self, book):
        self.end_both(book)
        self.formulas.append(joined(book, 1, self.boths))
        self.boths = []


def joined(book, asked, within):
    if len(within) == 1:
        return within[0]
    return book.add_node(asked, within)


# The whole formula counts as one plain bracket, which no ) closes.
def read_formula(reader, book):
    brackets = [Bracket(0)]
    goes_on = True
    while goes_on:
        begin_brackets(reader, brackets)
        name = reader.take_known_name(book.names)
        brackets[-1].parts.append(book.names[name])
        close_brackets(reader, brackets, book)
        goes_on = read_between(reader, brackets[-1], book)
    if len(brackets) > 1:
        reader.take(False)
    brackets[0].end_formula(book)
    return brackets[0].formulas[0]


def begin_brackets(reader, brackets):
    while reader.now().word == "(" or reader.now().kind == NUMBER:
        asked = 0
        if reader.now().kind == NUMBER:
            asked = reader.take_asked()
            reader.take_written("of")
        reader.take_written("(")
        brackets.append(Bracket(asked))


def close_brackets(reader, brackets, book):
    while reader.now().word == ")" and len(brackets) > 1:
        bracket = brackets.pop()
        bracket.end_formula(book)
        reader.take(bracket.asked <= len(bracket.formulas))
        brackets[-1].parts.append(closed(bracket, book))


def closed(bracket, book):
    if bracket.asked == 0:
        return bracket.formulas[0]
    return book.add_node(bracket.asked, bracket.formulas)


# Says whether a part has to follow.
def read_between(reader, bracket, book):
    word = reader.now().word
    if word == "|":
        bracket.end_both(book)
    elif word == "," and bracket.asked > 0:
        bracket.end_formula(book)
    elif word != "&":
        return False
    reader.take_written(word)
    return True
