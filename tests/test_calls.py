"""check and allowed: what they answer, in what order they refuse, and what they leave alone."""

import contextlib
import inspect
import io
import unittest

from helper import GREATEST, LEAST, Untouchable, asked, bytes_of, checked, refused_at, who_may, with_people
from secretparts import desk

THREE = "field 7; who a, b, c; "
REFUSED = [-2]


def may_of(formula):
    return who_may(THREE + "let x = " + formula + ";", 0, 3)


class Check(unittest.TestCase):
    def test_how_many_lets(self):
        self.assertEqual(checked("field 2; who a;"), [0])
        self.assertEqual(checked(THREE), [0])
        self.assertEqual(checked(THREE + "let x = a;"), [1])
        self.assertEqual(checked(THREE + "let x = a & b | c; let y = 2 of (a, b, c); let z = x | y;"), [3])

    def test_an_empty_text(self):
        self.assertEqual(desk.check([]), [-100])

    def test_a_text_that_is_too_long(self):
        right = bytes_of(THREE + "let x = a;")
        blanks = [32] * (65536 - len(right))
        self.assertEqual(desk.check(right + blanks), [1])
        self.assertEqual(desk.check(right + blanks + [32]), REFUSED)
        self.assertEqual(desk.check([63] * 65536), refused_at(0))
        self.assertEqual(desk.check([63] * 65537), REFUSED)
        self.assertEqual(desk.check([32] * 65536), refused_at(65536))
        self.assertEqual(desk.allowed(0, 1, right + blanks), [1])
        self.assertEqual(desk.allowed(0, 1, right + blanks + [32]), REFUSED)


class WhoMay(unittest.TestCase):
    def test_a_person(self):
        self.assertEqual(may_of("a"), [1, 3, 5, 7])
        self.assertEqual(may_of("b"), [2, 3, 6, 7])
        self.assertEqual(may_of("c"), [4, 5, 6, 7])

    def test_all_of_some(self):
        self.assertEqual(may_of("a & b"), [3, 7])
        self.assertEqual(may_of("a & b & c"), [7])
        self.assertEqual(may_of("a & a"), [1, 3, 5, 7])

    def test_any_of_some(self):
        self.assertEqual(may_of("a | b"), [1, 2, 3, 5, 6, 7])
        self.assertEqual(may_of("a | b | c"), [1, 2, 3, 4, 5, 6, 7])

    def test_so_many_of_some(self):
        self.assertEqual(may_of("1 of (a, b, c)"), [1, 2, 3, 4, 5, 6, 7])
        self.assertEqual(may_of("2 of (a, b, c)"), [3, 5, 6, 7])
        self.assertEqual(may_of("3 of (a, b, c)"), [7])
        self.assertEqual(may_of("1 of (c)"), [4, 5, 6, 7])

    def test_one_person_at_several_places(self):
        self.assertEqual(may_of("2 of (a, a, b)"), [1, 3, 5, 7])
        self.assertEqual(may_of("3 of (a, a, b, c)"), [3, 5, 7])

    def test_both_binds_closer_than_or(self):
        self.assertEqual(may_of("a & b | c"), [3, 4, 5, 6, 7])
        self.assertEqual(may_of("a | b & c"), [1, 3, 5, 6, 7])
        self.assertEqual(may_of("a & b | b & c | c & a"), [3, 5, 6, 7])

    def test_brackets(self):
        self.assertEqual(may_of("a & (b | c)"), [3, 5, 7])
        self.assertEqual(may_of("(a | b) & c"), [5, 6, 7])
        self.assertEqual(may_of("((a) | (b & (c)))"), [1, 3, 5, 6, 7])

    def test_one_within_another(self):
        self.assertEqual(may_of("2 of (a & b, b | c, c)"), [3, 4, 5, 6, 7])
        self.assertEqual(may_of("2 of (2 of (a, b, c), a, 1 of (b & c))"), [3, 5, 6, 7])
        self.assertEqual(may_of("c & 1 of (a, b)"), [5, 6, 7])
        self.assertEqual(may_of("1 of (a | b & c, a & b)"), [1, 3, 5, 6, 7])

    def test_names_of_lets(self):
        text = THREE + "let x = a | b; let y = x & c; let z = 2 of (x, y, a); let u = y;"
        self.assertEqual(who_may(text, 0, 3), [1, 2, 3, 5, 6, 7])
        self.assertEqual(who_may(text, 1, 3), [5, 6, 7])
        self.assertEqual(who_may(text, 2, 3), [1, 3, 5, 6, 7])
        self.assertEqual(who_may(text, 3, 3), [5, 6, 7])

    def test_a_name_of_a_let_stands_as_if_in_brackets(self):
        text = THREE + "let x = a | b; let y = c & x;"
        self.assertEqual(who_may(text, 1, 3), [5, 6, 7])

    def test_nobody_and_all(self):
        for formula in ("a", "a & b & c", "a | b | c", "1 of (a)", "2 of (a, b | c)"):
            text = THREE + "let x = " + formula + ";"
            self.assertEqual(asked(0, 0, text), [0], formula)
            self.assertEqual(asked(0, 7, text), [1], formula)

    def test_ten_people(self):
        text = "field 11; who %s; let x = 6 of (%s); let y = p9;" % (with_people(10), with_people(10))
        for who in range(1024):
            self.assertEqual(asked(0, who, text), [1 if bin(who).count("1") >= 6 else 0], who)
            self.assertEqual(asked(1, who, text), [1 if who >= 512 else 0], who)


class Order(unittest.TestCase):
    def test_form_is_no_lets_number(self):
        text = THREE + "let x = a; let y = b;"
        self.assertEqual([asked(form, 1, text) for form in (0, 1)], [[1], [0]])
        for form in (-1, 2, 3, -2, 16, LEAST, GREATEST):
            self.assertEqual(asked(form, 1, text), REFUSED, form)
        for form in (-1, 0, 1, LEAST, GREATEST):
            self.assertEqual(asked(form, 0, THREE), REFUSED, form)

    def test_who_tells_more_than_the_people(self):
        for people in range(1, 11):
            text = "field 11; who %s; let x = p0;" % with_people(people)
            self.assertEqual(asked(0, 2 ** people - 1, text), [1])
            for who in (-1, -2, 2 ** people, 2 ** people + 1, 2 ** 30, LEAST, GREATEST):
                self.assertEqual(asked(0, who, text), REFUSED, who)

    def test_a_wrong_text_ahead_of_all_else(self):
        for form in (0, 1, -1, LEAST, GREATEST):
            for who in (0, 1, -1, 8, LEAST, GREATEST):
                self.assertEqual(asked(form, who, ""), refused_at(0))
                self.assertEqual(asked(form, who, THREE + "let x = a & ;"), refused_at(34))
                self.assertEqual(asked(form, who, THREE + "let x = a &"), refused_at(33))

    def test_a_text_over_its_limits_ahead_of_all_else(self):
        for form in (0, 1, -1, LEAST, GREATEST):
            for who in (0, 1, -1, 8, LEAST, GREATEST):
                self.assertEqual(asked(form, who, "field 2; who a; let x = a & a;"), [-5])

    def test_form_and_who_both_wrong(self):
        for form in (1, -1, LEAST, GREATEST):
            for who in (-1, 8, LEAST, GREATEST):
                self.assertEqual(asked(form, who, THREE + "let x = a;"), REFUSED)


class Deep(unittest.TestCase):
    def test_brackets_40_within_one_another(self):
        plain = THREE + "let x = " + "(" * 40 + "b" + ")" * 40 + ";"
        self.assertEqual(checked(plain), [1])
        self.assertEqual(who_may(plain, 0, 3), [2, 3, 6, 7])
        nodes = THREE + "let x = " + "1 of (" * 40 + "b" + ")" * 40 + ";"
        self.assertEqual(who_may(nodes, 0, 3), [2, 3, 6, 7])

    def test_brackets_40_deep_that_matter(self):
        formula = "c"
        for number in range(23):
            formula = "(%s%s%s)" % ("ab"[number % 2], "&|"[number // 2 % 2], formula)
        text = THREE + "let x = " + "(" * 17 + formula + ")" * 17 + ";"
        self.assertEqual(checked(text), [1])
        expected = []
        for who in range(8):
            a, b, c = (bool(who & bit) for bit in (1, 2, 4))
            plain = formula.replace("&", " and ").replace("|", " or ")
            if eval(plain, {"a": a, "b": b, "c": c}):
                expected.append(who)
        self.assertEqual(who_may(text, 0, 3), expected)

    def test_40_deep_and_one_bracket_off(self):
        head = THREE + "let x = "
        text = head + "(" * 40 + "b" + ")" * 39 + ";"
        self.assertEqual(checked(text), refused_at(len(text) - 1))
        text = head + "(" * 40 + "b" + ")" * 41 + ";"
        self.assertEqual(checked(text), refused_at(len(text) - 2))
        text = head + "(" * 40
        self.assertEqual(checked(text), refused_at(len(text)))

    def test_many_lets_that_nest(self):
        text = "field 2;who a;let l0=a;"
        for number in range(1, 16):
            text += "let l%d=1of(1of(1of(l%d)));" % (number, number - 1)
        self.assertLessEqual(len(text), 600)
        self.assertEqual(checked(text), [16])
        self.assertEqual([asked(15, who, text) for who in (0, 1)], [[0], [1]])

    def test_no_depth_is_too_much_for_a_long_text(self):
        text = THREE + "let x = " + "(" * 20000 + "1 of (" * 2000 + "b" + ")" * 22000 + ";"
        self.assertEqual(checked(text), [1])
        self.assertEqual(asked(0, 2, text), [1])

    def test_a_text_of_600_bytes(self):
        text = "field 251; who " + ", ".join("person_number_%d" % i for i in range(10)) + "; let x = "
        text += " & ".join("person_number_%d" % i for i in range(10)) + "; let y = 2 of (x, person_number_0);"
        text += " " * (599 - len(text))
        for last, expected in ((" ", [2]), ("#", [2]), ("?", refused_at(599))):
            self.assertEqual(len(text + last), 600)
            self.assertEqual(checked(text + last), expected)
        self.assertEqual(asked(0, 1023, text + "\n"), [1])
        self.assertEqual(asked(1, 1022, text + "\n"), [0])


class LeftAlone(unittest.TestCase):
    TEXTS = ("", "?", THREE, THREE + "let x = 2 of (a, b & c);", THREE + "let x = ", "field 2; who a; let x = a & a;")

    def test_what_was_handed_in_is_as_it_was(self):
        for text in self.TEXTS:
            handed = Untouchable(bytes_of(text))
            desk.check(handed)
            desk.allowed(0, 3, handed)
            self.assertEqual(list(handed), bytes_of(text))

    def test_nothing_is_kept(self):
        first = [(checked(text), asked(0, 3, text)) for text in self.TEXTS]
        again = [(checked(text), asked(0, 3, text)) for text in reversed(self.TEXTS)]
        self.assertEqual(first, list(reversed(again)))
        answer = checked(THREE)
        answer.append(9)
        self.assertEqual(checked(THREE), [0])

    def test_nothing_is_printed(self):
        said = io.StringIO()
        with contextlib.redirect_stdout(said), contextlib.redirect_stderr(said):
            for text in self.TEXTS:
                checked(text)
                asked(0, 3, text)
        self.assertEqual(said.getvalue(), "")


class Interface(unittest.TestCase):
    def test_arguments(self):
        self.assertEqual(list(inspect.signature(desk.check).parameters), ["text"])
        self.assertEqual(list(inspect.signature(desk.allowed).parameters), ["form", "who", "text"])

    def test_by_name(self):
        text = bytes_of(THREE + "let x = a;")
        self.assertEqual(desk.check(text=text), [1])
        self.assertEqual(desk.allowed(form=0, who=1, text=text), [1])

    def test_answers_are_lists_of_whole_numbers(self):
        for text in LeftAlone.TEXTS:
            for answer in (checked(text), asked(0, 0, text), asked(0, 7, text), asked(5, 0, text), asked(0, -1, text)):
                self.assertIs(type(answer), list)
                self.assertEqual([type(number) for number in answer], [int])


if __name__ == "__main__":
    unittest.main()
