"""The limits of a text that is right (-5)."""

import unittest

from helper import asked, checked, refused_at, with_people

OVER = [-5]


def lets(count):
    return "".join("let l%d=p0;" % number for number in range(count))


def doubled(count):
    """Lets that each name the one before twice."""
    text = "let l0=p0;"
    for number in range(1, count):
        text += "let l%d=l%d&l%d;" % (number, number - 1, number - 1)
    return text


class People(unittest.TestCase):
    def test_10_and_11(self):
        self.assertEqual(checked("field 5; who p0;"), [0])
        self.assertEqual(checked("field 5; who %s;" % with_people(10)), [0])
        self.assertEqual(checked("field 5; who %s;" % with_people(11)), OVER)
        self.assertEqual(checked("field 5; who %s;" % with_people(80)), OVER)


class Lets(unittest.TestCase):
    def test_16_and_17(self):
        self.assertEqual(checked("field 5; who p0;" + lets(16)), [16])
        self.assertEqual(checked("field 5; who p0;" + lets(17)), OVER)
        self.assertEqual(checked("field 5; who p0;" + lets(40)), OVER)


class Places(unittest.TestCase):
    def test_24_and_25_written_out(self):
        for between in ("&", "|"):
            for count, expected in ((24, [1]), (25, OVER)):
                formula = between.join(["p0"] * count)
                self.assertEqual(checked("field 251; who p0; let x = %s;" % formula), expected)

    def test_24_and_25_of_many_people(self):
        for count, expected in ((24, [1]), (25, OVER)):
            names = ["p%d" % (number % 10) for number in range(count)]
            text = "field 251; who %s; let x = 3 of (%s);" % (with_people(10), ",".join(names))
            self.assertEqual(checked(text), expected)

    def test_24_and_25_by_names_of_lets(self):
        head = "field 251; who a, b; let x = a & b & a & b & a & b & a & b; let y = x | x | x; "
        self.assertEqual(checked(head), [2])
        self.assertEqual(checked(head + "let z = y;"), [3])
        self.assertEqual(checked(head + "let z = 1 of (((y)));"), [3])
        self.assertEqual(checked(head + "let z = y & a;"), OVER)
        self.assertEqual(checked(head + "let z = x & x & x & b;"), OVER)

    def test_each_let_is_counted_by_itself(self):
        one = "&".join(["a"] * 24)
        self.assertEqual(checked("field 251; who a; let x = %s; let y = %s;" % (one, one)), [2])

    def test_any_let_may_be_the_one(self):
        one = "&".join(["a"] * 25)
        for text in ("let x = %s; let y = a; let z = a;", "let x = a; let y = %s; let z = a;",
                     "let x = a; let y = a; let z = %s;"):
            self.assertEqual(checked("field 251; who a; " + text % one), OVER)

    def test_each_names_the_one_before_twice(self):
        head = "field 251; who p0;"
        self.assertEqual(checked(head + doubled(5)), [5])
        self.assertEqual(checked(head + doubled(6)), OVER)
        self.assertEqual(checked(head + doubled(16)), OVER)
        self.assertEqual(checked(head + doubled(36)), OVER)
        self.assertEqual(asked(0, 1, head + doubled(36)), OVER)
        self.assertEqual(checked(head + doubled(1000)), OVER)

    def test_each_names_the_one_before_often(self):
        text = "field 251; who a; let l0=a;"
        for number in range(1, 16):
            text += "let l%d=%s;" % (number, "&".join(["l%d" % (number - 1)] * 6))
        self.assertLessEqual(len(text), 600)
        self.assertEqual(checked(text), OVER)


class Nodes(unittest.TestCase):
    def shapes(self, within):
        names = ["a"] * within
        return ("&".join(names), "|".join(names), "1 of (%s)" % ",".join(names),
                "%d of (%s)" % (within, ",".join(names)))

    def test_fewer_than_p_and_p_within(self):
        for prime in (2, 3, 5, 7, 11, 13, 17, 19, 23):
            for formula in self.shapes(prime - 1):
                text = "field %d; who a; let x = %s;" % (prime, formula)
                self.assertEqual(checked(text), [1], text)
            for within in (prime, prime + 1):
                for formula in self.shapes(within):
                    text = "field %d; who a; let x = %s;" % (prime, formula)
                    self.assertEqual(checked(text), OVER, text)

    def test_a_node_of_one_within_in_the_least_field(self):
        self.assertEqual(checked("field 2; who a; let x = a; let y = 1 of (1 of ((x)));"), [2])

    def test_a_node_deep_within(self):
        self.assertEqual(checked("field 3; who a; let x = a & 1 of ((a | a));"), [1])
        self.assertEqual(checked("field 3; who a; let x = a & 1 of ((a | a | a));"), OVER)
        self.assertEqual(checked("field 3; who a; let x = a & a & a; let y = a;"), OVER)

    def test_brackets_make_no_node_and_keep_nodes_apart(self):
        self.assertEqual(checked("field 3; who a; let x = a & (a & a);"), [1])
        self.assertEqual(checked("field 3; who a; let x = (a | a) | a;"), [1])
        self.assertEqual(checked("field 3; who a; let x = a & a | a & a;"), [1])
        self.assertEqual(checked("field 3; who a; let x = (a) & (a) & (a);"), OVER)
        self.assertEqual(checked("field 3; who a; let x = a & a; let y = x & a;"), [2])
        self.assertEqual(checked("field 2; who a; let x = ((a));"), [1])


class OnlyOfARightText(unittest.TestCase):
    def test_a_wrong_token_behind_what_is_over(self):
        for text in ("field 5; who %s" % with_people(11),
                     "field 5; who p0;" + lets(17) + "let",
                     "field 251; who p0;" + doubled(20) + "let y = ",
                     "field 2; who a; let x = a & a",
                     "field 2; who a; let x = 2 of (a, a)"):
            self.assertEqual(checked(text), refused_at(len(text)), text)
            self.assertEqual(checked(text + "?"), refused_at(len(text)), text)

    def test_a_let_too_many_is_still_a_name(self):
        text = "field 5; who p0;" + lets(17)
        self.assertEqual(checked(text + "let y = l16;"), OVER)
        self.assertEqual(checked(text + "let l16 = p0;"), refused_at(len(text) + 4))

    def test_a_person_too_many_is_still_a_name(self):
        text = "field 5; who %s; " % with_people(11)
        self.assertEqual(checked(text + "let y = p10;"), OVER)
        self.assertEqual(checked(text + "let y = p11;"), refused_at(len(text) + 8))


if __name__ == "__main__":
    unittest.main()
