"""same: whether of two lets just the same people may."""

import inspect
import random
import unittest

from helper import (GREATEST, LEAST, OVER_TEXT, WRONG_TEXTS, Untouchable, bytes_of, made_lets, may, refused_at,
                    with_people)
from secretparts import desk

FOUR = "field 7; who a, b, c, d; "

# Pairs of formulas: of the first ones just the same people may, of the others not.
ALIKE = (
    ("a", "a"),
    ("a & b", "a & b"),
    ("a & b", "b & a"),
    ("a | b", "b | a"),
    ("a", "(a)"),
    ("a", "1 of (a)"),
    ("a", "a & a"),
    ("a", "a | a"),
    ("a", "a | a & b"),
    ("a", "a & (a | b)"),
    ("a & b & c", "3 of (a, b, c)"),
    ("a | b | c", "1 of (c, b, a)"),
    ("2 of (a, b, c)", "a & b | b & c | c & a"),
    ("2 of (a, b, c)", "(a | b) & (b | c) & (c | a)"),
    ("a & (b | c)", "a & b | a & c"),
    ("a | b & c", "(a | b) & (a | c)"),
    ("(a & b) & c", "a & (b & c)"),
    ("2 of (a, a, b)", "a"),
    ("3 of (a, a, b, c)", "a & (b | c)"),
    ("3 of (a, b, c, d)", "a & b & (c | d) | c & d & (a | b)"),
)
UNLIKE = (
    ("a", "b"),
    ("a & b", "a | b"),
    ("a", "a & b"),
    ("a", "a | b"),
    ("a & b", "a & c"),
    ("a & b", "a & b & c"),
    ("2 of (a, b, c)", "3 of (a, b, c)"),
    ("2 of (a, b, c)", "1 of (a, b, c)"),
    ("2 of (a, b, c)", "a & b | b & c"),
    ("a & b | c", "a & (b | c)"),
    ("a & b | c & d", "(a | b) & (c | d)"),
    ("d", "1 of (c)"),
)


def same(form, other, text):
    return desk.same(form, other, bytes_of(text))


class TwoLets(unittest.TestCase):
    def hold(self, pairs, expected):
        for first, second in pairs:
            text = FOUR + "let x = %s; let y = %s;" % (first, second)
            self.assertEqual(same(0, 1, text), expected, text)
            self.assertEqual(same(1, 0, text), expected, text)
            self.assertEqual(same(0, 0, text), [1], text)
            self.assertEqual(same(1, 1, text), [1], text)

    def test_the_same_people(self):
        self.hold(ALIKE, [1])

    def test_not_the_same_people(self):
        self.hold(UNLIKE, [0])

    def test_names_of_lets(self):
        text = FOUR + "let x = a & b; let y = x; let z = x | c; let u = c | b & a; let v = z & u;"
        self.assertEqual([same(0, other, text) for other in range(5)], [[1], [1], [0], [0], [0]])
        self.assertEqual([same(4, other, text) for other in range(5)], [[0], [0], [1], [1], [1]])

    def test_by_one_set_of_people_alone(self):
        four = "2 of (a, b, c, d)"
        pairs = ("a & b", "a & c", "a & d", "b & c", "b & d", "c & d")
        self.assertEqual(same(0, 1, FOUR + "let x = %s; let y = %s;" % (four, " | ".join(pairs))), [1])
        for left_out in pairs:
            row = " | ".join(pair for pair in pairs if pair != left_out)
            self.assertEqual(same(0, 1, FOUR + "let x = %s; let y = %s;" % (four, row)), [0], left_out)

    def test_by_everybody_or_by_one_person_alone(self):
        self.assertEqual(same(0, 1, FOUR + "let x = 4 of (a, b, c, d); let y = 3 of (a, b, c);"), [0])
        self.assertEqual(same(0, 1, FOUR + "let x = a | b | c; let y = a | b | c | d;"), [0])
        self.assertEqual(same(0, 1, FOUR + "let x = a | b | c; let y = d | b | c;"), [0])

    def test_ten_people(self):
        head = "field 13; who %s; let x = 5 of (%s); " % (with_people(10), with_people(10))
        halves = "let l = 2 of (p0, p1, p2, p3, p4); let r = 2 of (p5, p6, p7, p8, p9); "
        self.assertEqual(same(0, 0, head), [1])
        doubled = ", ".join(["p%d, p%d" % (number, number) for number in range(10)])
        text = head.replace("13", "251") + "let y = 10 of (%s); let z = 9 of (%s); let u = 11 of (%s);" % (
            doubled, doubled, doubled)
        self.assertEqual([same(0, other, text) for other in range(4)], [[1], [1], [1], [0]])
        text = head + halves + "let y = l | r; let z = r | l; let u = l & r;"
        self.assertEqual(same(3, 4, text), [1])
        self.assertEqual(same(3, 5, text), [0])
        self.assertEqual(same(1, 2, text), [0])

    def test_ten_people_by_the_last_alone(self):
        nine = ", ".join("p%d" % number for number in range(9))
        text = "field 13; who %s; let x = 9 of (%s); let y = 10 of (%s); let z = 1 of (%s); let u = 1 of (%s);" % (
            with_people(10), nine, with_people(10), nine, with_people(10))
        self.assertEqual(same(0, 1, text), [0])
        self.assertEqual(same(2, 3, text), [0])

    def test_made_texts_against_every_number(self):
        answers = []
        for text, read, form in made_lets(random.Random(81), 900):
            tables = [[may(formula, who) for who in range(2 ** read.people)] for formula in read.lets]
            for other in range(len(tables)):
                alike = tables[form] == tables[other]
                self.assertEqual(same(form, other, text), [int(alike)], text)
                answers.append((form == other, alike))
        for seen in ((True, True), (False, True), (False, False)):
            self.assertGreater(answers.count(seen), 100)


class Order(unittest.TestCase):
    NUMBERS = (0, 1, -1, LEAST, GREATEST)

    def test_a_wrong_text_ahead_of_all_else(self):
        for form in self.NUMBERS:
            for other in self.NUMBERS:
                for text, place in WRONG_TEXTS:
                    self.assertEqual(same(form, other, text), refused_at(place), text)
                self.assertEqual(same(form, other, OVER_TEXT), [-5])

    def test_form_or_other_is_no_lets_number(self):
        text = FOUR + "let x = a; let y = a;"
        for right in (0, 1):
            for wrong in (-1, 2, 3, 16, LEAST, GREATEST):
                self.assertEqual(same(wrong, right, text), [-2])
                self.assertEqual(same(right, wrong, text), [-2])
                self.assertEqual(same(wrong, wrong, text), [-2])
        for form in self.NUMBERS:
            for other in self.NUMBERS:
                self.assertEqual(same(form, other, FOUR), [-2])

    def test_a_text_that_is_too_long(self):
        right = bytes_of(FOUR + "let x = a;")
        blanks = [32] * (65536 - len(right))
        self.assertEqual(desk.same(0, 0, right + blanks), [1])
        self.assertEqual(desk.same(0, 0, right + blanks + [32]), [-2])
        self.assertEqual(desk.same(0, 0, [63] * 65537), [-2])


class Large(unittest.TestCase):
    def test_brackets_40_within_one_another(self):
        for bracket in ("(", "1 of ("):
            text = FOUR + "let x = " + bracket * 40 + "b & c" + ")" * 40 + "; let y = c & b; let z = c | b;"
            self.assertEqual(same(0, 1, text), [1])
            self.assertEqual(same(0, 2, text), [0])

    def test_16_lets_and_24_places(self):
        row = ["p%d" % (number % 10) for number in range(24)]
        text = "field 251;who %s;let x=%s;let y=%s;" % (with_people(10).replace(" ", ""), "&".join(row), "|".join(row))
        for number in range(14):
            text += "let l%d=%s;" % (number, "y" if number % 2 else "x")
        self.assertLessEqual(len(text), 600)
        text = text.ljust(600)
        for form in range(16):
            for other in range(16):
                self.assertEqual(same(form, other, text), [1 if form % 2 == other % 2 else 0])


class LeftAlone(unittest.TestCase):
    TEXTS = (FOUR, FOUR + "let x = 2 of (a, b & c); let y = b;", "", OVER_TEXT)

    def test_what_was_handed_in_is_as_it_was(self):
        for text in self.TEXTS:
            for form, other in ((0, 0), (0, 1), (1, 0), (5, 0), (0, -1)):
                handed = Untouchable(bytes_of(text))
                desk.same(form, other, handed)
                self.assertEqual(list(handed), bytes_of(text))

    def test_interface(self):
        self.assertEqual(list(inspect.signature(desk.same).parameters), ["form", "other", "text"])
        self.assertEqual(desk.same(form=0, other=1, text=bytes_of(self.TEXTS[1])), [0])

    def test_whole_numbers(self):
        for form, other in ((0, 0), (0, 1), (2, 0)):
            answer = same(form, other, self.TEXTS[1])
            self.assertIs(type(answer), list)
            self.assertEqual([type(number) for number in answer], [int])


if __name__ == "__main__":
    unittest.main()
