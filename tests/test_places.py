"""Which tokens can stand where, and the place that is told of one that can't."""

import unittest

from helper import checked, refused_at

# A name of each sort, so that one list serves all places: a and b are people,
# x is an earlier let, fresh is no name yet.
TOKENS = (
    "field", "who", "let", "of", "a", "b", "x", "fresh",
    "0", "1", "2", "00003", "4", "251", "257", "65536", "000002",
    "(", ")", ",", ";", "=", "&", "|",
    "A", "_", "?", "*", "\x00", "\xff", "abcdefghijklmnop",
)
HEAD = "field 5; who a, b; let x = a; "
KNOWN = ("a", "b", "x")
ASKED = ("1", "2", "00003", "4", "251", "257", "65536")
PART = KNOWN + ASKED + ("(",)
BETWEEN = ("&", "|")

# What stands ahead, then the tokens that can stand there. Every token stands
# behind a blank, so a word or a number is never made longer by it.
STATES = (
    ("", ("field",)),
    ("field", ("2", "00003", "251")),
    ("field 5", (";",)),
    ("field 5;", ("who",)),
    ("field 5; who", ("a", "b", "x", "fresh")),
    ("field 5; who a", (",", ";")),
    ("field 5; who a,", ("b", "x", "fresh")),
    ("field 5; who a, b", (",", ";")),
    ("field 5; who a, b;", ("let",)),
    (HEAD, ("let",)),
    (HEAD + "let", ("fresh",)),
    (HEAD + "let y", ("=",)),
    (HEAD + "let y =", PART),
    (HEAD + "let y = a", BETWEEN + (";",)),
    (HEAD + "let y = x", BETWEEN + (";",)),
    (HEAD + "let y = a &", PART),
    (HEAD + "let y = a |", PART),
    (HEAD + "let y = a & b", BETWEEN + (";",)),
    (HEAD + "let y = a | b", BETWEEN + (";",)),
    (HEAD + "let y = (", PART),
    (HEAD + "let y = (a", BETWEEN + (")",)),
    (HEAD + "let y = (a &", PART),
    (HEAD + "let y = (a & b", BETWEEN + (")",)),
    (HEAD + "let y = (a | b", BETWEEN + (")",)),
    (HEAD + "let y = (a)", BETWEEN + (";",)),
    (HEAD + "let y = ((a)", BETWEEN + (")",)),
    (HEAD + "let y = 2", ("of",)),
    (HEAD + "let y = 2 of", ("(",)),
    (HEAD + "let y = 2 of (", PART),
    (HEAD + "let y = 1 of (a", BETWEEN + (",", ")")),
    (HEAD + "let y = 2 of (a", BETWEEN + (",",)),
    (HEAD + "let y = 2 of (a & b", BETWEEN + (",",)),
    (HEAD + "let y = 2 of (a | b", BETWEEN + (",",)),
    (HEAD + "let y = 2 of (a,", PART),
    (HEAD + "let y = 2 of (a, b", BETWEEN + (",", ")")),
    (HEAD + "let y = 3 of (a, b", BETWEEN + (",",)),
    (HEAD + "let y = 3 of (a, b, x", BETWEEN + (",", ")")),
    (HEAD + "let y = 2 of (a, b)", BETWEEN + (";",)),
    (HEAD + "let y = 2 of (a, (b", BETWEEN + (")",)),
    (HEAD + "let y = (2 of (a, b)", BETWEEN + (")",)),
    (HEAD + "let y = 2 of (1 of (a)", BETWEEN + (",",)),
    (HEAD + "let y = 1 of (2 of (a, b)", BETWEEN + (",", ")")),
    (HEAD + "let y = 1 of (a, (b)", BETWEEN + (",", ")")),
    (HEAD + "let y = a;", ("let",)),
)


class WhatCanStand(unittest.TestCase):
    def test_every_token_in_every_place(self):
        for ahead, standing in STATES:
            for token in TOKENS:
                text = ahead + " " + token
                expected = refused_at(len(ahead) + 1)
                if token in standing:
                    expected = refused_at(len(text))
                if token == ";" and token in standing and "who" in text:
                    expected = [text.count("let")]
                self.assertEqual(checked(text), expected, text)

    def test_the_end_can_stand_only_behind_who_and_behind_a_let(self):
        for ahead, standing in STATES:
            expected = refused_at(len(ahead) + 3)
            if standing == ("let",):
                expected = [ahead.count("let")]
            self.assertEqual(checked(ahead + " \n "), expected, ahead)

    def test_the_end_is_told_behind_blanks_and_remarks(self):
        self.assertEqual(checked(""), refused_at(0))
        self.assertEqual(checked("   "), refused_at(3))
        self.assertEqual(checked("field 5; who a\n# b\n\n"), refused_at(20))
        self.assertEqual(checked("field 5; who a # b"), refused_at(18))


class Fields(unittest.TestCase):
    def test_all_numbers(self):
        primes = [2] + [p for p in range(3, 252) if all(p % d for d in range(2, p))]
        self.assertEqual(len(primes), 54)
        for number in range(600):
            right = number in primes
            text = "field %d; who a;" % number
            self.assertEqual(checked(text), [0] if right else refused_at(6), number)

    def test_greater_primes(self):
        for number in (257, 263, 509, 7919, 65537, 99991):
            self.assertEqual(checked("field %d; who a;" % number), refused_at(6), number)


class Names(unittest.TestCase):
    def test_given_twice(self):
        self.assertEqual(checked("field 5; who a, b, a;"), refused_at(19))
        self.assertEqual(checked("field 5; who a; let a = a;"), refused_at(20))
        self.assertEqual(checked("field 5; who a; let x = a; let x = a;"), refused_at(31))

    def test_a_let_within_its_own_formula(self):
        self.assertEqual(checked("field 5; who a; let x = x;"), refused_at(24))
        self.assertEqual(checked("field 5; who a; let x = a & (a | x);"), refused_at(33))

    def test_a_later_let(self):
        self.assertEqual(checked("field 5; who a; let x = y; let y = a;"), refused_at(24))

    def test_a_name_that_is_none(self):
        self.assertEqual(checked("field 5; who a; let x = b;"), refused_at(24))
        self.assertEqual(checked("field 5; who ab; let x = a;"), refused_at(25))

    def test_an_earlier_let(self):
        text = "field 5; who a, b; let x = a; let y = x & b; let z = y | x;"
        self.assertEqual(checked(text), [3])


class HowMany(unittest.TestCase):
    def test_none_asked_for(self):
        for zero in ("0", "00", "00000"):
            self.assertEqual(checked("field 5; who a; let x = " + zero + " of (a);"), refused_at(24))

    def test_the_closing_bracket_where_more_are_asked_for(self):
        self.assertEqual(checked("field 5; who a, b; let x = 2 of (a);"), refused_at(34))
        self.assertEqual(checked("field 5; who a, b; let x = 3 of (a, b ) ;"), refused_at(38))
        self.assertEqual(checked("field 5; who a, b; let x = 3 of (a, (a & b));"), refused_at(43))
        self.assertEqual(checked("field 5; who a, b; let x = 2 of (a, 3 of (a, b));"), refused_at(46))
        self.assertEqual(checked("field 5; who a, b; let x = 4 of (a, 2 of (a, b), b);"), refused_at(50))

    def test_formulas_are_counted_not_people(self):
        self.assertEqual(checked("field 5; who a, b; let x = 2 of (a & b);"), refused_at(38))
        self.assertEqual(checked("field 5; who a, b; let x = 2 of (a, a);"), [1])
        self.assertEqual(checked("field 5; who a, b; let x = 2 of (a | b, (a));"), [1])

    def test_as_many_as_there_are_and_fewer(self):
        for asked in (1, 2, 3):
            self.assertEqual(checked("field 5; who a, b; let x = %d of (a, b, a);" % asked), [1])
        self.assertEqual(checked("field 5; who a; let x = 1 of (a);"), [1])

    def test_without_formulas(self):
        self.assertEqual(checked("field 5; who a; let x = 1 of ();"), refused_at(30))
        self.assertEqual(checked("field 5; who a; let x = ();"), refused_at(25))


class TheFirstIsTold(unittest.TestCase):
    def test_of_two_that_cannot_stand(self):
        self.assertEqual(checked("field 4; who a, a;"), refused_at(6))
        self.assertEqual(checked("field 5; who a, a; let x = q;"), refused_at(16))
        self.assertEqual(checked("field 5; who a; let x = q & 0 of (a);"), refused_at(24))

    def test_behind_a_right_text(self):
        right = "field 5; who a; let x = a;"
        for behind in (";", "a", "5", "field 5; who a;", "who b;", "of", ")", "?"):
            self.assertEqual(checked(right + behind), refused_at(len(right)), behind)

    def test_statements_out_of_order(self):
        self.assertEqual(checked("who a; field 5;"), refused_at(0))
        self.assertEqual(checked("field 5; let x = a; who a;"), refused_at(9))
        self.assertEqual(checked("field 5; field 5; who a;"), refused_at(9))
        self.assertEqual(checked("field 5; who a; who b;"), refused_at(16))


if __name__ == "__main__":
    unittest.main()
