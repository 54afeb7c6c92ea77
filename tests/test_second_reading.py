"""check and allowed against a second, recursive reading of the document, over many texts."""

import random
import re
import unittest

from helper import bytes_of
from secretparts.desk import allowed, check

TOKEN = re.compile(r"[ \t\r\n]+|#[^\n]*|(?P<word>[a-z][a-z0-9_]*)|(?P<number>[0-9]+)|(?P<sign>[(),;=&|])|(?P<wrong>.)",
                   re.DOTALL)
PRIMES = [p for p in range(2, 252) if [d for d in range(1, p + 1) if p % d == 0] == [1, p]]
PIECES = ("field ", "who ", "let ", "of ", "a", "b", "c", "x", "y", "z", "0", "1", "2", "3", "5", "(", ")", ",", ";",
          "=", "&", "|", " ", "\n", "#", "#\n", "?", "A", "_", "abcdefghijklmnop", "123456", " 2 of (", "let x = ")


class Wrong(Exception):
    pass


class SecondReading:
    """Formulas are nested tuples: a person's number, or (asked, formulas)."""

    def __init__(self, text):
        self.tokens = [(m.lastgroup, m.group(), m.start()) for m in TOKEN.finditer(text) if m.lastgroup]
        self.tokens.append(("end", "", len(text)))
        self.names = {}
        self.lets = []
        self.wide = 0
        self.word("field")
        self.prime = int(self.token("number", lambda t: len(t) <= 5 and int(t) in PRIMES))
        self.word(";")
        self.word("who")
        self.names[self.fresh()] = 0
        while self.tokens[0][1] == ",":
            self.word(",")
            self.names[self.fresh()] = len(self.names)
        self.people = len(self.names)
        self.word(";")
        while self.tokens[0][0] != "end":
            self.word("let")
            name = self.fresh()
            self.word("=")
            formula = self.formula()
            self.word(";")
            self.names[name] = formula
            self.lets.append(formula)

    def token(self, group, stands):
        found, text, place = self.tokens[0]
        if found != group or not stands(text):
            raise Wrong(place)
        return self.tokens.pop(0)[1]

    def word(self, text):
        return self.token("word" if text.isalpha() else "sign", lambda t: t == text)

    def name(self, stands):
        return self.token("word", lambda t: len(t) <= 15 and t not in ("field", "who", "let", "of") and stands(t))

    def fresh(self):
        return self.name(lambda t: t not in self.names)

    def node(self, asked, formulas):
        self.wide = max(self.wide, len(formulas))
        return (asked, formulas)

    def row(self, sign, one):
        found = [one()]
        while self.tokens[0][1] == sign:
            self.word(sign)
            found.append(one())
        return found

    def formula(self):
        boths = self.row("|", self.both)
        return boths[0] if len(boths) == 1 else self.node(1, boths)

    def both(self):
        parts = self.row("&", self.part)
        return parts[0] if len(parts) == 1 else self.node(len(parts), parts)

    def part(self):
        if self.tokens[0][1] == "(":
            self.word("(")
            formula = self.formula()
            self.word(")")
            return formula
        if self.tokens[0][0] == "number":
            asked = int(self.token("number", lambda t: len(t) <= 5 and int(t) > 0))
            self.word("of")
            self.word("(")
            formulas = self.row(",", self.formula)
            self.token("sign", lambda t: t == ")" and asked <= len(formulas))
            return self.node(asked, formulas)
        return self.names[self.name(lambda t: t in self.names)]


def places(formula):
    return 1 if isinstance(formula, int) else sum(places(inner) for inner in formula[1])


def may(formula, who):
    if isinstance(formula, int):
        return bool(who & 1 << formula)
    return [may(inner, who) for inner in formula[1]].count(True) >= formula[0]


def expected(form, who, text):
    """What check answers, and what allowed does."""
    try:
        read = SecondReading(text)
    except Wrong as wrong:
        return [-100 - wrong.args[0]], [-100 - wrong.args[0]]
    over = read.people > 10 or len(read.lets) > 16 or read.wide >= read.prime
    if over or max([places(formula) for formula in read.lets], default=0) > 24:
        return [-5], [-5]
    if not 0 <= form < len(read.lets) or not 0 <= who < 2 ** read.people:
        return [len(read.lets)], [-2]
    return [len(read.lets)], [int(may(read.lets[form], who))]


def made_formula(chance, names, depth):
    sort = chance.randrange(6)
    if depth == 0 or sort < 2:
        return chance.choice(names)
    inner = [made_formula(chance, names, depth - 1) for place in range(chance.randrange(1, 4))]
    if sort == 5:
        return "%d of (%s)" % (chance.randrange(1, len(inner) + 1), ", ".join(inner))
    row = (" & ", "|")[sort % 2].join(inner)
    return "(" + row + ")" if chance.randrange(2) else row


def made_text(chance):
    people = ["a", "b", "c", "d"][:chance.randrange(1, 5)]
    text = "field %s; who %s;\n" % (chance.choice((3, 5, 7, 251)), ", ".join(people))
    names = people
    for name in ("x", "y", "z")[:chance.randrange(4)]:
        text += "let %s = %s;\n" % (name, made_formula(chance, names, 3))
        names = names + [name]
    return text


def bent(chance, text):
    start = chance.randrange(len(text) + 1)
    end = min(len(text), start + chance.randrange(3))
    return text[:start] + chance.choice(PIECES + ("",)) + text[end:]


class Agree(unittest.TestCase):
    def compare(self, chance, text):
        form, who = chance.randrange(-1, 4), chance.randrange(-1, 17)
        found = check(bytes_of(text)), allowed(form, who, bytes_of(text))
        self.assertEqual(found, expected(form, who, text), (form, who, text))
        return found[1][0]

    def test_made_texts_and_bent_ones(self):
        chance = random.Random(20)
        answers = set()
        for turn in range(3000):
            text = made_text(chance)
            answers.add(self.compare(chance, text))
            for bend in range(3):
                text = bent(chance, text)
                answers.add(self.compare(chance, text))
        self.assertLessEqual({0, 1, -2, -5, -100}, answers)

    def test_texts_cut_off(self):
        chance = random.Random(21)
        for turn in range(60):
            text = made_text(chance)
            for end in range(len(text)):
                self.compare(chance, text[:end])


if __name__ == "__main__":
    unittest.main()
