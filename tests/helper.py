"""What all tests share: texts as lists of bytes, the ways to ask the desk, and a second reading of texts."""

import itertools
import re

from secretparts.desk import allowed, check

LEAST = -2147483648
GREATEST = 2147483647
TOKEN = re.compile(r"[ \t\r\n]+|#[^\n]*|(?P<word>[a-z][a-z0-9_]*)|(?P<number>[0-9]+)|(?P<sign>[(),;=&|])|(?P<wrong>.)",
                   re.DOTALL)
PRIMES = [p for p in range(2, 252) if [d for d in range(1, p + 1) if p % d == 0] == [1, p]]

# Wrong texts, each with the place of what can't stand, and a right text over its limits.
WRONG_TEXTS = (("", 0), ("?", 0), ("field 5; who a; let x = a & ;", 28), ("field 5; who a; let x = a &", 27),
               ("field 5; who a; let x = (a;", 26), ("field 5; who a; let x = 2 of (a);", 31))
OVER_TEXT = "field 2; who a; let x = a & a;"


def bytes_of(text):
    return list(text.encode("latin-1"))


def checked(text):
    return check(bytes_of(text))


def asked(form, who, text):
    return allowed(form, who, bytes_of(text))


def refused_at(place):
    return [-100 - place]


def with_people(count):
    return ", ".join("p%d" % number for number in range(count))


def who_may(text, form, people):
    """All the numbers of people that may, in rising order."""
    return [who for who in range(2 ** people) if asked(form, who, text) == [1]]


class Untouchable(list):
    """A list that tells of every change, even of one that is undone."""

    def refuse(self, *args, **kwargs):
        raise RuntimeError("what was handed in is changed")

    __setitem__ = __delitem__ = __iadd__ = __imul__ = refuse
    append = extend = insert = pop = remove = clear = sort = reverse = refuse


class Wrong(Exception):
    pass


class SecondReading:
    """Formulas are nested tuples: a person's number, or (asked, formulas)."""

    def __init__(self, text):
        self.tokens = [(m.lastgroup, m.group(), m.start()) for m in TOKEN.finditer(text) if m.lastgroup]
        self.tokens.append(("end", "", len(text)))
        self.names = {}
        self.lets = []
        self.wide = 0
        self.word("field")
        self.prime = int(self.token("number", lambda t: len(t) <= 5 and int(t) in PRIMES))
        self.word(";")
        self.word("who")
        self.names[self.fresh()] = 0
        while self.tokens[0][1] == ",":
            self.word(",")
            self.names[self.fresh()] = len(self.names)
        self.people = len(self.names)
        self.word(";")
        while self.tokens[0][0] != "end":
            self.word("let")
            name = self.fresh()
            self.word("=")
            formula = self.formula()
            self.word(";")
            self.names[name] = formula
            self.lets.append(formula)

    def token(self, group, stands):
        found, text, place = self.tokens[0]
        if found != group or not stands(text):
            raise Wrong(place)
        return self.tokens.pop(0)[1]

    def word(self, text):
        return self.token("word" if text.isalpha() else "sign", lambda t: t == text)

    def name(self, stands):
        return self.token("word", lambda t: len(t) <= 15 and t not in ("field", "who", "let", "of") and stands(t))

    def fresh(self):
        return self.name(lambda t: t not in self.names)

    def node(self, asked, formulas):
        self.wide = max(self.wide, len(formulas))
        return (asked, formulas)

    def row(self, sign, one):
        found = [one()]
        while self.tokens[0][1] == sign:
            self.word(sign)
            found.append(one())
        return found

    def formula(self):
        boths = self.row("|", self.both)
        return boths[0] if len(boths) == 1 else self.node(1, boths)

    def both(self):
        parts = self.row("&", self.part)
        return parts[0] if len(parts) == 1 else self.node(len(parts), parts)

    def part(self):
        if self.tokens[0][1] == "(":
            self.word("(")
            formula = self.formula()
            self.word(")")
            return formula
        if self.tokens[0][0] == "number":
            asked = int(self.token("number", lambda t: len(t) <= 5 and int(t) > 0))
            self.word("of")
            self.word("(")
            formulas = self.row(",", self.formula)
            self.token("sign", lambda t: t == ")" and asked <= len(formulas))
            return self.node(asked, formulas)
        return self.names[self.name(lambda t: t in self.names)]


def places(formula):
    return 1 if isinstance(formula, int) else sum(places(inner) for inner in formula[1])


def may(formula, who):
    if isinstance(formula, int):
        return bool(who & 1 << formula)
    return [may(inner, who) for inner in formula[1]].count(True) >= formula[0]


def owners(formula):
    return [formula] if isinstance(formula, int) else [one for inner in formula[1] for one in owners(inner)]


def chances(formula):
    return 0 if isinstance(formula, int) else formula[0] - 1 + sum(chances(inner) for inner in formula[1])


def second_deal(formula, secret, chance, prime):
    """Takes its numbers of chance off the list that is handed in."""
    if isinstance(formula, int):
        return [secret]
    own = [chance.pop(0) for number in range(formula[0] - 1)]
    parts = []
    for x, inner in enumerate(formula[1], start=1):
        value = secret + sum(number * x ** power for power, number in enumerate(own, start=1))
        parts += second_deal(inner, value % prime, chance, prime)
    return parts


class Trial:
    """Every secret of a let dealt with every row of chance."""

    def __init__(self, formula, prime):
        self.owners = owners(formula)
        self.deals = [(secret, second_deal(formula, secret, list(row), prime)) for secret in range(prime)
                      for row in itertools.product(range(prime), repeat=chances(formula))]
        self.kept = {}

    def those_of(self, who, parts):
        return tuple(part for owner, part in zip(self.owners, parts) if who >> owner & 1)

    def agreeing(self, who, own_parts):
        """All the secrets that agree with these people's parts."""
        if who not in self.kept:
            self.kept[who] = {}
            for secret, parts in self.deals:
                self.kept[who].setdefault(self.those_of(who, parts), set()).add(secret)
        return self.kept[who].get(tuple(own_parts), set())

    def opened(self, who, own_parts):
        secrets = self.agreeing(who, own_parts)
        return -4 if not secrets else -6 if len(secrets) > 1 else min(secrets)


def small_enough(formula, prime):
    """Whether open_by and mend are asked of it."""
    return prime ** (chances(formula) + 1) <= 4000


def made_formula(chance, names, depth):
    sort = chance.randrange(6)
    if depth == 0 or sort < 2:
        return chance.choice(names)
    inner = [made_formula(chance, names, depth - 1) for place in range(chance.randrange(1, 4))]
    if sort == 5:
        return "%d of (%s)" % (chance.randrange(1, len(inner) + 1), ", ".join(inner))
    row = (" & ", "|")[sort % 2].join(inner)
    return "(" + row + ")" if chance.randrange(2) else row


def made_text(chance):
    people = ["a", "b", "c", "d"][:chance.randrange(1, 5)]
    text = "field %s; who %s;\n" % (chance.choice((3, 5, 7, 251)), ", ".join(people))
    names = people
    for name in ("x", "y", "z")[:chance.randrange(4)]:
        text += "let %s = %s;\n" % (name, made_formula(chance, names, 3))
        names = names + [name]
    return text


def made_lets(chance, turns):
    """Each let of the right ones of so many made texts: the text, its second reading, the let's number."""
    for turn in range(turns):
        text = made_text(chance)
        if checked(text)[0] >= 0:
            read = SecondReading(text)
            for form in range(len(read.lets)):
                yield text, read, form


def made_small_lets(chance, turns):
    """Those of them of which open_by and mend are asked."""
    for text, read, form in made_lets(chance, turns):
        if small_enough(read.lets[form], read.prime):
            yield text, read, form
