"""least: all who may of whom none could be spared."""

import inspect
import random
import unittest

from helper import (GREATEST, LEAST, OVER_TEXT, WRONG_TEXTS, SecondReading, Untouchable, bytes_of, made_lets, may,
                    refused_at, who_may, with_people)
from secretparts import desk

THREE = "field 7; who a, b, c; "
MANY = 10 ** 6


def least_of(form, text, most=MANY):
    return desk.least(form, most, bytes_of(text))


def numbers_of(formula, head=THREE):
    found = least_of(0, head + "let x = " + formula + ";")
    assert found[0] == len(found) - 1, found
    return found[1:]


def tried(formula, people):
    """By every number of people and each of its subsets."""
    all_who = [who for who in range(2 ** people) if may(formula, who)]
    return [who for who in all_who if not any(other & who == other for other in all_who if other != who)]


class WhoCannotBeSpared(unittest.TestCase):
    def test_a_person(self):
        self.assertEqual(least_of(0, THREE + "let x = a;"), [1, 1])
        self.assertEqual(least_of(0, THREE + "let x = b;"), [1, 2])
        self.assertEqual(least_of(0, THREE + "let x = c;"), [1, 4])
        self.assertEqual(least_of(0, "field 2; who a; let x = 1 of (a);"), [1, 1])

    def test_all_of_some(self):
        self.assertEqual(numbers_of("a & b"), [3])
        self.assertEqual(numbers_of("c & a"), [5])
        self.assertEqual(numbers_of("a & b & c"), [7])

    def test_any_of_some(self):
        self.assertEqual(numbers_of("c | a"), [1, 4])
        self.assertEqual(numbers_of("a | b | c"), [1, 2, 4])

    def test_so_many_of_some(self):
        self.assertEqual(numbers_of("1 of (a, b, c)"), [1, 2, 4])
        self.assertEqual(numbers_of("2 of (a, b, c)"), [3, 5, 6])
        self.assertEqual(numbers_of("3 of (a, b, c)"), [7])
        self.assertEqual(numbers_of("1 of (b)"), [2])

    def test_one_within_another(self):
        self.assertEqual(numbers_of("a & (b | c)"), [3, 5])
        self.assertEqual(numbers_of("a & b | c"), [3, 4])
        self.assertEqual(numbers_of("2 of (a & b, b | c, c)"), [3, 4])
        self.assertEqual(numbers_of("1 of (2 of (a, b, c), 1 of (a))"), [1, 6])
        self.assertEqual(numbers_of("(a | b) & (b | c)"), [2, 5])

    def test_a_person_in_several_places(self):
        self.assertEqual(numbers_of("a & a"), [1])
        self.assertEqual(numbers_of("a | a & b"), [1])
        self.assertEqual(numbers_of("a & b | a & c | b"), [2, 5])
        self.assertEqual(numbers_of("3 of (a, a, b, c)"), [3, 5])
        self.assertEqual(numbers_of("2 of (a, a, b, c)"), [1, 6])

    def test_lets_that_name_lets(self):
        text = THREE + "let x = a | b; let y = x & c; let z = 2 of (x, y, x); let u = y | a & b;"
        self.assertEqual(least_of(0, text), [2, 1, 2])
        self.assertEqual(least_of(1, text), [2, 5, 6])
        self.assertEqual(least_of(2, text), [2, 1, 2])
        self.assertEqual(least_of(3, text), [3, 3, 5, 6])

    def test_people_without_a_place(self):
        self.assertEqual(numbers_of("2 of (p1, p7, p9)", "field 11; who %s; " % with_people(10)), [130, 514, 640])

    def test_ten_people(self):
        head = "field 11; who %s; " % with_people(10)
        for asked in range(1, 11):
            expected = [who for who in range(1024) if bin(who).count("1") == asked]
            self.assertEqual(numbers_of("%d of (%s)" % (asked, with_people(10)), head), expected)
        pairs = " & ".join("(p%d | p%d)" % (number, number + 5) for number in range(5))
        self.assertEqual(len(numbers_of(pairs, head)), 32)
        self.assertEqual(numbers_of(pairs.replace("|", "?").replace("&", "|").replace("?", "&"), head),
                         [33, 66, 132, 264, 528])

    def test_as_many_as_there_can_be(self):
        head = "field 11; who %s; " % with_people(10)
        self.assertEqual(len(numbers_of("5 of (%s)" % with_people(10), head)), 252)


class AgainstEveryNumber(unittest.TestCase):
    def hold(self, text, read, form):
        found = least_of(form, text)
        self.assertEqual(found[0], len(found) - 1, text)
        self.assertEqual(found[1:], sorted(set(found[1:])), text)
        self.assertEqual(found[1:], tried(read.lets[form], read.people), text)
        self.assertEqual(least_of(form, text, found[0]), found)
        self.assertEqual(least_of(form, text, found[0] - 1), [-1])

    def test_made_texts(self):
        lets = list(made_lets(random.Random(31), 700))
        self.assertGreater(len(lets), 300)
        for text, read, form in lets:
            self.hold(text, read, form)

    def test_each_may_and_none_can_be_spared_as_allowed_answers(self):
        text = THREE + "let x = 2 of (a, b & c, b | a, 1 of (c));"
        expected = [who for who in who_may(text, 0, 3)
                    if not any(who & bit and desk.allowed(0, who - bit, bytes_of(text)) == [1] for bit in (1, 2, 4))]
        self.assertEqual(least_of(0, text)[1:], expected)

    def test_ten_people_made(self):
        chance = random.Random(32)
        names = ["p%d" % number for number in range(10)]
        for turn in range(12):
            groups = ["%d of (%s)" % (chance.randrange(1, 5), ", ".join(chance.sample(names, 4))) for group in range(5)]
            text = "field 11; who %s; let x = %d of (%s);" % (
                with_people(10), chance.randrange(1, 6), ", ".join(groups))
            self.hold(text, SecondReading(text), 0)


class Most(unittest.TestCase):
    TEXT = THREE + "let x = 2 of (a, b, c); let y = a;"

    def test_as_many_as_there_are_and_one_fewer(self):
        for most in (3, 4, 100, GREATEST):
            self.assertEqual(least_of(0, self.TEXT, most), [3, 3, 5, 6])
        for most in (2, 1, 0):
            self.assertEqual(least_of(0, self.TEXT, most), [-1])
        self.assertEqual(least_of(1, self.TEXT, 1), [1, 1])
        self.assertEqual(least_of(1, self.TEXT, 0), [-1])

    def test_below_0(self):
        for most in (-1, -2, -100, LEAST):
            self.assertEqual(least_of(0, self.TEXT, most), [-2])

    def test_252_of_them(self):
        text = "field 11; who %s; let x = 5 of (%s);" % (with_people(10), with_people(10))
        self.assertEqual(least_of(0, text, 252)[0], 252)
        self.assertEqual(least_of(0, text, 251), [-1])


class Order(unittest.TestCase):
    FORMS = (0, 1, -1, LEAST, GREATEST)

    def test_most_below_0_ahead_of_all(self):
        for text in [text for text, place in WRONG_TEXTS] + [OVER_TEXT, THREE, THREE + "let x = a;"]:
            for form in self.FORMS:
                for most in (-1, LEAST):
                    self.assertEqual(least_of(form, text, most), [-2], text)

    def test_a_wrong_text_ahead_of_form_and_most(self):
        for form in self.FORMS:
            for most in (0, 1, GREATEST):
                for text, place in WRONG_TEXTS:
                    self.assertEqual(least_of(form, text, most), refused_at(place), text)
                self.assertEqual(least_of(form, OVER_TEXT, most), [-5])

    def test_a_wrong_form_ahead_of_too_many(self):
        text = THREE + "let x = a | b; let y = b;"
        for form in (-1, 2, 3, 16, LEAST, GREATEST):
            for most in (0, 1, 2, GREATEST):
                self.assertEqual(least_of(form, text, most), [-2])
        for form in (-1, 0, 1, LEAST, GREATEST):
            self.assertEqual(least_of(form, THREE, 0), [-2])

    def test_a_text_that_is_too_long(self):
        right = bytes_of(THREE + "let x = a;")
        blanks = [32] * (65536 - len(right))
        self.assertEqual(desk.least(0, 1, right + blanks), [1, 1])
        self.assertEqual(desk.least(0, 1, right + blanks + [32]), [-2])
        self.assertEqual(desk.least(0, 1, [63] * 65537), [-2])


class Large(unittest.TestCase):
    def test_24_places(self):
        names = ["p%d" % (number % 10) for number in range(24)]
        text = "field 251; who %s; let x = 9 of (%s);" % (with_people(10), ", ".join(names))
        weights = [3, 3, 3, 3, 2, 2, 2, 2, 2, 2]
        expected = []
        for who in range(1024):
            held = [weights[person] for person in range(10) if who >> person & 1]
            if sum(held) >= 9 and sum(held) - min(held) < 9:
                expected.append(who)
        self.assertEqual(least_of(0, text), [len(expected)] + expected)

    def test_brackets_40_within_one_another(self):
        for bracket in ("(", "1 of ("):
            text = THREE + "let x = " + bracket * 40 + "b & c" + ")" * 40 + ";"
            self.assertEqual(least_of(0, text), [1, 6])

    def test_a_text_of_600_bytes(self):
        text = "field 251;who a,b,c,d,e,f,g,h,i,j;"
        text += "let x=" + "1of(" * 40 + "5 of(a,b,c,d,e,f,g,h,i,j)" + ")" * 40 + ";"
        text += "let y=" + "1of(" * 39 + "x&a" + ")" * 39 + ";"
        text = text.ljust(600)
        self.assertEqual(len(text), 600)
        fives = [who for who in range(1024) if bin(who).count("1") == 5]
        self.assertEqual(least_of(0, text), [252] + fives)
        self.assertEqual(least_of(1, text), [126] + [who for who in fives if who & 1])


class LeftAlone(unittest.TestCase):
    TEXTS = (THREE, THREE + "let x = 2 of (a, b & c);", "", OVER_TEXT)

    def test_what_was_handed_in_is_as_it_was(self):
        for text in self.TEXTS:
            for form, most in ((0, 100), (0, 0), (0, -1), (7, 100)):
                handed = Untouchable(bytes_of(text))
                desk.least(form, most, handed)
                self.assertEqual(list(handed), bytes_of(text))

    def test_nothing_is_kept(self):
        text = THREE + "let x = 2 of (a, b, c);"
        answer = least_of(0, text)
        answer.append(9)
        self.assertEqual(least_of(0, text), [3, 3, 5, 6])
        least_of(0, THREE + "let x = a;")
        self.assertEqual(least_of(0, text), [3, 3, 5, 6])

    def test_interface(self):
        self.assertEqual(list(inspect.signature(desk.least).parameters), ["form", "most", "text"])
        self.assertEqual(desk.least(form=0, most=9, text=bytes_of(self.TEXTS[1])), [1, 7])

    def test_whole_numbers(self):
        for most in (9, 1, -1):
            answer = least_of(0, self.TEXTS[1], most)
            self.assertIs(type(answer), list)
            self.assertEqual({type(number) for number in answer}, {int})


if __name__ == "__main__":
    unittest.main()
