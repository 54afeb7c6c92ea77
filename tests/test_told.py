"""told: a let's formula as a text, as it is and the other way round."""

import inspect
import random
import unittest

from helper import (GREATEST, LEAST, OVER_TEXT, WRONG_TEXTS, SecondReading, Untouchable, bytes_of, made_lets,
                    refused_at, with_people)
from secretparts import desk

FOUR = "field 7; who a, b, c, d; "
MANY = 10 ** 6


def text_told(form, turned, text):
    found = desk.told(form, turned, MANY, bytes_of(text))
    assert found[0] == len(found) - 1, found
    return bytes(found[1:]).decode("ascii")


def told_of(formula, turned=0, head=FOUR):
    return text_told(0, turned, head + "let x = " + formula + ";")


def turned_round(formula):
    if isinstance(formula, int):
        return formula
    return (len(formula[1]) + 1 - formula[0], [turned_round(inner) for inner in formula[1]])


def sort_of(formula):
    if isinstance(formula, int):
        return "person"
    asked, count = formula[0], len(formula[1])
    return "so many" if count == 1 or asked not in (1, count) else "all" if asked == count else "any"


def second_telling(formula, names):
    sort = sort_of(formula)
    if sort == "person":
        return names[formula]
    inner = [second_telling(one, names) for one in formula[1]]
    if sort == "so many":
        return "%d of (%s)" % (formula[0], ", ".join(inner))
    bracketed = {"all": ("all", "any"), "any": ("any",)}[sort]
    inner = ["(%s)" % text if sort_of(one) in bracketed else text for text, one in zip(inner, formula[1])]
    return {"all": " & ", "any": " | "}[sort].join(inner)


# What is written, what is told, what is told the other way round.
TELLINGS = (
    ("a", "a", "a"),
    ("(((d)))", "d", "d"),
    ("a & b", "a & b", "a | b"),
    ("a|b", "a | b", "a & b"),
    ("a&b&c&d", "a & b & c & d", "a | b | c | d"),
    # one within another
    ("a & b | c", "a & b | c", "(a | b) & c"),
    ("(a & b) | c", "a & b | c", "(a | b) & c"),
    ("a | b & c", "a | b & c", "a & (b | c)"),
    ("a & (b | c)", "a & (b | c)", "a | b & c"),
    ("(a | b) & (c | d)", "(a | b) & (c | d)", "a & b | c & d"),
    ("(a & b) & c", "(a & b) & c", "(a | b) | c"),
    ("a & (b & c)", "a & (b & c)", "a | (b | c)"),
    ("(a | b) | c", "(a | b) | c", "(a & b) & c"),
    ("a | (b | c) | d", "a | (b | c) | d", "a & (b & c) & d"),
    ("a & ((b | c) | d)", "a & ((b | c) | d)", "a | (b & c) & d"),
    ("a | ((b & c) & d)", "a | (b & c) & d", "a & ((b | c) | d)"),
    ("a & (b | c & d)", "a & (b | c & d)", "a | b & (c | d)"),
    # so many of some, within each and each within it
    ("2 of (a, b, c)", "2 of (a, b, c)", "2 of (a, b, c)"),
    ("2 of (a,b,c,d)", "2 of (a, b, c, d)", "3 of (a, b, c, d)"),
    ("3 of (a,b,c,d)", "3 of (a, b, c, d)", "2 of (a, b, c, d)"),
    ("d & 2 of (a, b, c)", "d & 2 of (a, b, c)", "d | 2 of (a, b, c)"),
    ("d | (2 of (a, b, c))", "d | 2 of (a, b, c)", "d & 2 of (a, b, c)"),
    ("2 of (a & b, c, d)", "2 of (a & b, c, d)", "2 of (a | b, c, d)"),
    ("2 of (a, b | c, (d))", "2 of (a, b | c, d)", "2 of (a, b & c, d)"),
    ("2 of ((a & b), c | d, 2 of (a, b, c))", "2 of (a & b, c | d, 2 of (a, b, c))",
     "2 of (a | b, c & d, 2 of (a, b, c))"),
    ("2 of (a, (b | c) & d, (b & c) & d, d)", "2 of (a, (b | c) & d, (b & c) & d, d)",
     "3 of (a, b & c | d, (b | c) | d, d)"),
    # k of one formula
    ("1 of (a)", "1 of (a)", "1 of (a)"),
    ("1 of (a & b)", "1 of (a & b)", "1 of (a | b)"),
    ("1 of ((a | b))", "1 of (a | b)", "1 of (a & b)"),
    ("1 of (1 of (1 of (c)))", "1 of (1 of (1 of (c)))", "1 of (1 of (1 of (c)))"),
    ("a & 1 of (b) & c", "a & 1 of (b) & c", "a | 1 of (b) | c"),
    ("a | 1 of (b | c)", "a | 1 of (b | c)", "a & 1 of (b & c)"),
    ("2 of (1 of (a), b, c)", "2 of (1 of (a), b, c)", "2 of (1 of (a), b, c)"),
    # k 1 and k n written as k of (...)
    ("1 of (a, b)", "a | b", "a & b"),
    ("2 of (a, b)", "a & b", "a | b"),
    ("1 of (a, b, c)", "a | b | c", "a & b & c"),
    ("3 of (a, b, c)", "a & b & c", "a | b | c"),
    ("d & 1 of (a, b)", "d & (a | b)", "d | a & b"),
    ("d & 2 of (a, b)", "d & (a & b)", "d | (a | b)"),
    ("d | 1 of (a, b)", "d | (a | b)", "d & (a & b)"),
    ("d | 2 of (a, b)", "d | a & b", "d & (a | b)"),
    ("2 of (1 of (a, b), 2 of (c, d), a)", "2 of (a | b, c & d, a)", "2 of (a & b, c | d, a)"),
    ("2 of (a & b, c | d)", "(a & b) & (c | d)", "(a | b) | c & d"),
    ("1 of (a & b, c | d)", "a & b | (c | d)", "(a | b) & (c & d)"),
    # brackets that make no node
    ("((a)) & (b)", "a & b", "a | b"),
    ("(a & b)", "a & b", "a | b"),
    ("((a | b) & c)", "(a | b) & c", "a & b | c"),
    ("(2 of (((a)), (b & c), ((d))))", "2 of (a, b & c, d)", "2 of (a, b | c, d)"),
    # a person in several places
    ("a & a", "a & a", "a | a"),
    ("2 of (a, a, b) | a", "2 of (a, a, b) | a", "2 of (a, a, b) & a"),
)


class Tellings(unittest.TestCase):
    def test_as_it_is(self):
        for written, told, other in TELLINGS:
            self.assertEqual(told_of(written), told, written)

    def test_the_other_way_round(self):
        for written, told, other in TELLINGS:
            for turned in (1, -1, 2, LEAST, GREATEST):
                self.assertEqual(told_of(written, turned), other, written)

    def test_how_many_bytes_stand_ahead(self):
        self.assertEqual(desk.told(0, 0, 5, bytes_of(FOUR + "let x = a&b;")), [5, 97, 32, 38, 32, 98])
        self.assertEqual(desk.told(0, 1, 5, bytes_of(FOUR + "let x = a&b;")), [5, 97, 32, 124, 32, 98])
        self.assertEqual(desk.told(0, 0, 8, bytes_of("field 2;who a;let x=1of(a);")), [8] + bytes_of("1 of (a)"))

    def test_names_of_lets_stand_for_what_they_were_let_be(self):
        text = FOUR + "let x = d; let y = x; let z = a | y; let u = b & z; let v = z | u; let w = 2 of (z, u, v);"
        self.assertEqual([text_told(form, 0, text) for form in range(6)], [
            "d", "d", "a | d", "b & (a | d)", "(a | d) | b & (a | d)",
            "2 of (a | d, b & (a | d), (a | d) | b & (a | d))"])
        self.assertEqual([text_told(form, 1, text) for form in range(6)], [
            "d", "d", "a & d", "b | a & d", "(a & d) & (b | a & d)",
            "2 of (a & d, b | a & d, (a & d) & (b | a & d))"])

    def test_long_names_and_greater_numbers(self):
        head = "field 251; who person_number_0, q9_, c; "
        self.assertEqual(told_of("q9_&person_number_0", 0, head), "q9_ & person_number_0")
        row = ", ".join(["c"] * 24)
        self.assertEqual(told_of("00013 of (%s)" % row, 0, head), "13 of (%s)" % row)
        self.assertEqual(told_of("00013 of (%s)" % row, 1, head), "12 of (%s)" % row)
        self.assertEqual(told_of("23 of (%s)" % row, 1, head), "2 of (%s)" % row)
        self.assertEqual(told_of("24 of (%s)" % row, 0, head), row.replace(",", " &"))
        self.assertEqual(told_of("24 of (%s)" % row, 1, head), row.replace(",", " |"))

    def test_remarks_and_blanks_are_not_told(self):
        self.assertEqual(told_of("a#|b\n&\t\r\n(b\n|#\n c)"), "a & (b | c)")


class AgainstASecondTelling(unittest.TestCase):
    def hold(self, text, read, form):
        formula = read.lets[form]
        names = ["a", "b", "c", "d"][:read.people]
        head = "field 251; who %s; let x = " % ", ".join(names)
        told = text_told(form, 0, text)
        self.assertEqual(told, second_telling(formula, names), text)
        turned = text_told(form, 1, text)
        self.assertEqual(turned, second_telling(turned_round(formula), names), text)
        self.assertEqual(SecondReading(head + told + ";").lets[0], formula, text)
        self.assertEqual(SecondReading(head + turned + ";").lets[0], turned_round(formula), text)
        self.assertEqual(text_told(0, 0, head + told + ";"), told, text)
        self.assertEqual(text_told(0, 1, head + turned + ";"), told, text)
        self.keeps_all_others_from_it(head, told, turned, len(names))

    def keeps_all_others_from_it(self, head, told, turned, people):
        everybody = 2 ** people - 1
        for who in range(2 ** people):
            may_keep = desk.allowed(0, who, bytes_of(head + turned + ";"))[0]
            others_may = desk.allowed(0, everybody - who, bytes_of(head + told + ";"))[0]
            self.assertEqual(may_keep, 1 - others_may, (told, turned, who))

    def test_made_texts(self):
        lets = list(made_lets(random.Random(41), 700))
        self.assertGreater(len(lets), 300)
        for text, read, form in lets:
            self.hold(text, read, form)

    def test_the_written_ones(self):
        for written, told, other in TELLINGS:
            text = FOUR + "let x = " + written + ";"
            self.hold(text, SecondReading(text), 0)


class Most(unittest.TestCase):
    def test_just_as_many_as_the_bytes_and_one_fewer(self):
        for written, told, other in TELLINGS:
            text = bytes_of(FOUR + "let x = " + written + ";")
            for turned, expected in ((0, told), (1, other)):
                answer = [len(expected)] + bytes_of(expected)
                for most in (len(expected), len(expected) + 1, GREATEST):
                    self.assertEqual(desk.told(0, turned, most, text), answer)
                for most in (len(expected) - 1, 0):
                    self.assertEqual(desk.told(0, turned, most, text), [-1])

    def test_only_the_way_that_is_asked_for_counts(self):
        text = bytes_of(FOUR + "let x = a & (b | c);")
        self.assertEqual(desk.told(0, 0, 10, text), [-1])
        self.assertEqual(desk.told(0, 1, 9, text), [9] + bytes_of("a | b & c"))
        self.assertEqual(desk.told(0, 1, 8, text), [-1])

    def test_below_0(self):
        for most in (-1, -2, LEAST):
            for turned in (0, 1, -1):
                self.assertEqual(desk.told(0, turned, most, bytes_of(FOUR + "let x = a;")), [-2])


class Order(unittest.TestCase):
    FORMS = (0, 1, -1, LEAST, GREATEST)
    TURNED = (0, 1, -1, LEAST, GREATEST)

    def refused(self, form, turned, most, text, expected):
        self.assertEqual(desk.told(form, turned, most, bytes_of(text)), expected, (form, turned, most, text))

    def test_most_below_0_ahead_of_all(self):
        for text in [text for text, place in WRONG_TEXTS] + [OVER_TEXT, FOUR, FOUR + "let x = a;"]:
            for form in self.FORMS:
                for turned in self.TURNED:
                    self.refused(form, turned, -1, text, [-2])
                    self.refused(form, turned, LEAST, text, [-2])

    def test_a_wrong_text_ahead_of_form_and_most(self):
        for form in self.FORMS:
            for turned in self.TURNED:
                for most in (0, 1, GREATEST):
                    for text, place in WRONG_TEXTS:
                        self.refused(form, turned, most, text, refused_at(place))
                    self.refused(form, turned, most, OVER_TEXT, [-5])

    def test_a_wrong_form_ahead_of_too_many(self):
        for turned in self.TURNED:
            for most in (0, 1, GREATEST):
                for form in (-1, 2, 3, 16, LEAST, GREATEST):
                    self.refused(form, turned, most, FOUR + "let x = a & b; let y = a;", [-2])
                for form in (-1, 0, 1, LEAST, GREATEST):
                    self.refused(form, turned, most, FOUR, [-2])

    def test_a_text_that_is_too_long(self):
        right = bytes_of(FOUR + "let x = a;")
        blanks = [32] * (65536 - len(right))
        self.assertEqual(desk.told(0, 0, 1, right + blanks), [1, 97])
        self.assertEqual(desk.told(0, 0, 1, right + blanks + [32]), [-2])
        self.assertEqual(desk.told(0, 0, 1, [63] * 65537), [-2])


class Large(unittest.TestCase):
    def test_24_places(self):
        names = ["p%d" % (number % 10) for number in range(24)]
        head = "field 251; who %s; " % with_people(10)
        for sign, other in (("&", "|"), ("|", "&")):
            told = (" %s " % sign).join(names)
            self.assertEqual(told_of(told, 0, head), told)
            self.assertEqual(told_of(told, 5, head), told.replace(sign, other))

    def test_brackets_40_within_one_another(self):
        self.assertEqual(told_of("(" * 40 + "b & c" + ")" * 40), "b & c")
        deep = "1 of (" * 40 + "b & c" + ")" * 40
        self.assertEqual(told_of(deep), deep)
        self.assertEqual(told_of(deep, 1), deep.replace("&", "|"))

    def test_nested_as_deep_as_places_go(self):
        written = "d"
        for number in range(23):
            written = "%s & (%s)" % ("abc"[number % 3], written) if number else "d & a"
        self.assertEqual(written.count("("), 22)
        self.assertEqual(told_of(written), written)
        self.assertEqual(told_of(written, 1), written.replace("&", "|"))

    def test_a_let_that_is_told_longer_than_its_text(self):
        text = "field 251;who p;let a=" + "1of(" * 40 + "p" + ")" * 40 + ";let b=a&a&a&a&a&a;let c=b|b|b|b;"
        text += "let d=" + "1of(" * 30 + "c" + ")" * 30 + ";"
        text = text.ljust(600)
        self.assertEqual(len(text), 600)
        one = "1 of (" * 40 + "p" + ")" * 40
        six = " & ".join([one] * 6)
        told = "1 of (" * 30 + " | ".join([six] * 4) + ")" * 30
        other = "1 of (" * 30 + " & ".join(["(%s)" % six.replace("&", "|")] * 4) + ")" * 30
        self.assertEqual(text_told(3, 0, text), told)
        self.assertEqual(text_told(3, 1, text), other)
        self.assertEqual(desk.told(3, 0, len(told), bytes_of(text))[0], len(told))
        self.assertEqual(desk.told(3, 0, len(told) - 1, bytes_of(text)), [-1])

    def test_a_chain_of_lets(self):
        text = "field 2;who a;let l0=1of(a);"
        for number in range(1, 16):
            text += "let l%d=1of(1of(1of(l%d)));" % (number, number - 1)
        self.assertLessEqual(len(text), 600)
        self.assertEqual(text_told(15, 0, text), "1 of (" * 46 + "a" + ")" * 46)


class LeftAlone(unittest.TestCase):
    TEXTS = (FOUR, FOUR + "let x = 2 of (a, b & c, d);", "", OVER_TEXT)

    def test_what_was_handed_in_is_as_it_was(self):
        for text in self.TEXTS:
            for form, turned, most in ((0, 0, 100), (0, 1, 100), (0, 0, 0), (0, 0, -1), (7, 0, 100)):
                handed = Untouchable(bytes_of(text))
                desk.told(form, turned, most, handed)
                self.assertEqual(list(handed), bytes_of(text))

    def test_nothing_is_kept(self):
        written, first, other = TELLINGS[23]
        text = FOUR + "let x = " + written + ";"
        for turn in range(3):
            self.assertEqual(text_told(0, 0, text), first)
            self.assertEqual(text_told(0, 1, text), other)
            desk.told(0, 0, MANY, bytes_of(text)).append(9)

    def test_interface(self):
        self.assertEqual(list(inspect.signature(desk.told).parameters), ["form", "turned", "most", "text"])
        text = bytes_of(FOUR + "let x = a;")
        self.assertEqual(desk.told(form=0, turned=1, most=9, text=text), [1, 97])

    def test_whole_numbers(self):
        for turned, most in ((0, 99), (1, 99), (0, 1), (0, -1)):
            answer = desk.told(0, turned, most, bytes_of(self.TEXTS[1]))
            self.assertIs(type(answer), list)
            self.assertEqual({type(number) for number in answer}, {int})


if __name__ == "__main__":
    unittest.main()
