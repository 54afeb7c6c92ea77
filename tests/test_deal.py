"""deal: the parts of a secret by numbers of chance."""

import inspect
import random
import unittest

from helper import (GREATEST, LEAST, OVER_TEXT, WRONG_TEXTS, SecondReading, Untouchable, bytes_of, chances, made_lets,
                    owners, refused_at, second_deal, with_people)
from secretparts import desk

THREE = "field 7; who a, b, c; "
WRONG = [-3]

# A formula in field 7, the secret, the chance, and the parts reckoned by hand.
DEALS = (
    ("a", 3, [], [3]),
    ("c", 0, [], [0]),
    ("1 of (b)", 6, [], [6]),
    ("a & b", 3, [2], [5, 0]),
    ("a & b", 3, [0], [3, 3]),
    ("b & a", 3, [2], [5, 0]),
    ("a & b & c", 1, [2, 3], [6, 3, 6]),
    ("a | b", 4, [], [4, 4]),
    ("a | b | c", 6, [], [6, 6, 6]),
    ("1 of (a, b, c)", 5, [], [5, 5, 5]),
    ("2 of (a, b, c)", 3, [5], [1, 6, 4]),
    ("3 of (a, b, c)", 1, [2, 3], [6, 3, 6]),
    ("3 of (a, b, c, a)", 1, [2, 3], [6, 3, 6, 1]),
    ("2 of (a, b, c, a, b, c)", 6, [6], [5, 4, 3, 2, 1, 0]),
    ("a & (b | c)", 3, [2], [5, 0, 0]),
    ("a | b & c", 3, [4], [3, 0, 4]),
    ("(a & b) & c", 1, [2, 4], [0, 4, 5]),
    ("c & (a & b)", 1, [2, 4], [3, 2, 6]),
    ("(a & b) & (b & c)", 1, [2, 4, 6], [0, 4, 4, 3]),
    ("((a & b) | c) & (a & c)", 6, [1, 2, 3], [2, 4, 0, 4, 0]),
    ("a & b | a & c", 2, [1, 3], [3, 4, 5, 1]),
    ("2 of (2 of (a, b, c), 3 of (a, b, c))", 0, [1, 2, 3, 4], [3, 5, 0, 2, 3, 5]),
    ("1 of (1 of (a & b))", 2, [3], [5, 1]),
    ("2 of (1 of (a), a | b, a & c)", 5, [1, 2], [6, 0, 0, 3, 5]),
    # one person in several places
    ("a & a", 3, [2], [5, 0]),
    ("a | a", 3, [], [3, 3]),
    ("2 of (a, a, b)", 3, [5], [1, 6, 4]),
)


def dealt(form, secret, text, chance):
    return desk.deal(form, secret, bytes_of(text), list(chance))


def of_let(formula, secret, chance, head=THREE):
    return dealt(0, secret, head + "let x = " + formula + ";", chance)


class Parts(unittest.TestCase):
    def test_reckoned_by_hand(self):
        for formula, secret, chance, parts in DEALS:
            self.assertEqual(of_let(formula, secret, chance), [len(parts)] + parts, formula)

    def test_in_the_least_field(self):
        for formula in ("a", "1 of (a)", "1 of (1 of ((a)))"):
            for secret in (0, 1):
                self.assertEqual(of_let(formula, secret, [], "field 2; who a; "), [1, secret])
            self.assertEqual(of_let(formula, 2, [], "field 2; who a; "), WRONG)

    def test_in_the_greatest_field(self):
        head = "field 251; who a, b, c; "
        self.assertEqual(of_let("a & b", 250, [250], head), [2, 249, 248])
        self.assertEqual(of_let("3 of (a, b, c)", 200, [100, 250], head), [3, 48, 145, 240])
        self.assertEqual(of_let("a | c", 250, [], head), [2, 250, 250])

    def test_lets_that_name_lets(self):
        text = THREE + "let x = a & b; let y = x & x; let z = x; let u = x | 2 of (c, y, x);"
        self.assertEqual(dealt(0, 3, text, [4]), [2, 0, 4])
        self.assertEqual(dealt(1, 1, text, [2, 4, 6]), [4, 0, 4, 4, 3])
        self.assertEqual(dealt(2, 3, text, [4]), [2, 0, 4])
        self.assertEqual(dealt(3, 1, text, [4, 2, 3, 4, 6, 5]), [9, 5, 2, 3, 5, 2, 3, 2, 5, 3])

    def test_each_place_of_a_let_has_chance_of_its_own(self):
        text = THREE + "let x = a & b; let y = x | x;"
        self.assertEqual(dealt(1, 3, text, [2, 4]), [4, 5, 0, 0, 4])
        self.assertEqual(dealt(1, 3, text, [2]), WRONG)

    def test_ten_people(self):
        text = "field 11; who %s; let x = 2 of (%s);" % (with_people(10), with_people(10))
        self.assertEqual(dealt(0, 4, text, [3]), [10, 7, 10, 2, 5, 8, 0, 3, 6, 9, 1])

    def test_made_texts_against_a_second_deal(self):
        chance = random.Random(51)
        held = 0
        for text, read, form in made_lets(chance, 1500):
            formula = read.lets[form]
            row = [chance.randrange(read.prime) for number in range(chances(formula))]
            secret = chance.randrange(read.prime)
            parts = second_deal(formula, secret, list(row), read.prime)
            self.assertEqual(len(parts), len(owners(formula)))
            self.assertEqual(dealt(form, secret, text, row), [len(parts)] + parts, text)
            self.assertEqual(dealt(form, secret, text, row + [0]), WRONG, text)
            if row:
                self.assertEqual(dealt(form, secret, text, row[1:]), WRONG, text)
            held += 1
        self.assertGreater(held, 1000)


class Refused(unittest.TestCase):
    def test_the_secret(self):
        for prime in (5, 7, 251):
            head = "field %d; who a, b; " % prime
            for secret in (0, 1, prime - 1):
                self.assertEqual(of_let("a | b", secret, [], head), [2, secret, secret])
            for secret in (-1, -2, prime, prime + 1, -prime, 1000, LEAST, GREATEST):
                self.assertEqual(of_let("a | b", secret, [], head), WRONG, secret)
                self.assertEqual(of_let("a & b", secret, [1], head), WRONG, secret)

    def test_how_much_chance(self):
        for formula, takes in (("a", 0), ("a | b", 0), ("a & b", 1), ("3 of (a, b, c)", 2), ("2 of (a, b, c)", 1),
                               ("(a & b) & (b & c)", 3), ("a & b | b & c | c & a", 3), ("1 of (1 of (a & b & c))", 2)):
            for count in list(range(10)) + [63, 64]:
                found = of_let(formula, 1, [1] * count)
                self.assertEqual(found == WRONG, count != takes, (formula, count))

    def test_a_number_of_chance_that_is_p_or_more(self):
        for place in range(3):
            for number, right in ((0, True), (6, True), (7, False), (8, False), (255, False)):
                chance = [1, 1, 1]
                chance[place] = number
                found = of_let("(a & b) & (b & c)", 1, chance)
                self.assertEqual(found != WRONG, right, chance)
        head = "field 251; who a, b; "
        self.assertEqual(of_let("a & b", 0, [250], head), [2, 250, 249])
        self.assertEqual(of_let("a & b", 0, [251], head), WRONG)
        self.assertEqual(of_let("a & b", 0, [255], head), WRONG)

    def test_more_than_64_numbers_ahead_of_all(self):
        for text in [text for text, place in WRONG_TEXTS] + [OVER_TEXT, THREE, THREE + "let x = a;"]:
            for form in (0, 1, -1):
                for secret in (0, -1, 7):
                    self.assertEqual(dealt(form, secret, text, [0] * 65), [-2])


class Order(unittest.TestCase):
    FORMS = (0, 1, -1, LEAST, GREATEST)
    SECRETS = (0, -1, 7, LEAST, GREATEST)
    CHANCES = ([], [0], [255], [0] * 64)

    def test_a_wrong_text_ahead_of_all_else(self):
        for form in self.FORMS:
            for secret in self.SECRETS:
                for chance in self.CHANCES:
                    for text, place in WRONG_TEXTS:
                        self.assertEqual(dealt(form, secret, text, chance), refused_at(place), text)
                    self.assertEqual(dealt(form, secret, OVER_TEXT, chance), [-5])

    def test_a_wrong_form_ahead_of_the_numbers(self):
        for secret in self.SECRETS:
            for chance in self.CHANCES:
                for form in (-1, 2, 3, 16, LEAST, GREATEST):
                    self.assertEqual(dealt(form, secret, THREE + "let x = a; let y = a & b;", chance), [-2])
                for form in self.FORMS:
                    self.assertEqual(dealt(form, secret, THREE, chance), [-2])

    def test_a_text_that_is_too_long(self):
        right = bytes_of(THREE + "let x = a;")
        blanks = [32] * (65536 - len(right))
        self.assertEqual(desk.deal(0, 4, right + blanks, []), [1, 4])
        self.assertEqual(desk.deal(0, 4, right + blanks + [32], []), [-2])
        self.assertEqual(desk.deal(0, 4, [63] * 65537, []), [-2])


class Large(unittest.TestCase):
    def test_24_places_of_one_node(self):
        names = ["p%d" % (number % 10) for number in range(24)]
        text = "field 251; who %s; let x = %s;" % (with_people(10), "&".join(names))
        chance = [(number * 37 + 5) % 251 for number in range(23)]
        parts = [sum(number * x ** power for power, number in enumerate([77] + chance)) % 251 for x in range(1, 25)]
        self.assertEqual(dealt(0, 77, text, chance), [24] + parts)
        self.assertEqual(dealt(0, 77, text, chance[:-1]), WRONG)
        self.assertEqual(dealt(0, 77, text, chance + [0]), WRONG)
        self.assertEqual(dealt(0, 77, text, chance[:-1] + [251]), WRONG)

    def test_24_places_nested_as_deep_as_they_go(self):
        for left in (True, False):
            formula = "a"
            for number in range(23):
                formula = "(%s)&b" % formula if left else "b&(%s)" % formula
            text = "field 251; who a, b; let x = %s;" % formula
            read = SecondReading(text)
            chance = list(range(100, 123))
            parts = second_deal(read.lets[0], 9, list(chance), 251)
            self.assertEqual(dealt(0, 9, text, chance), [24] + parts)

    def test_brackets_40_within_one_another(self):
        for bracket in ("(", "1 of ("):
            self.assertEqual(of_let(bracket * 40 + "a & b" + ")" * 40, 3, [2]), [2, 5, 0])

    def test_a_text_of_600_bytes(self):
        text = "field 251;who p,q;let a=" + "1of(" * 40 + "p&q" + ")" * 40 + ";let b=a&a&a;let c=b|b|b|b;"
        text += "let d=" + "1of(" * 30 + "c" + ")" * 30 + ";"
        text = text.ljust(600)
        self.assertEqual(len(text), 600)
        read = SecondReading(text)
        chance = [(number * 91 + 3) % 251 for number in range(20)]
        self.assertEqual(chances(read.lets[3]), 20)
        self.assertEqual(dealt(3, 250, text, chance), [24] + second_deal(read.lets[3], 250, list(chance), 251))


class LeftAlone(unittest.TestCase):
    TEXTS = (THREE, THREE + "let x = 2 of (a, b & c);", "", OVER_TEXT)

    def test_what_was_handed_in_is_as_it_was(self):
        for text in self.TEXTS:
            for form, secret, chance in ((0, 3, [1, 2]), (0, 7, [1, 2]), (0, 3, [1]), (0, 3, [1, 7]), (5, 3, [1, 2])):
                handed, numbers = Untouchable(bytes_of(text)), Untouchable(chance)
                desk.deal(form, secret, handed, numbers)
                self.assertEqual(list(handed), bytes_of(text))
                self.assertEqual(list(numbers), chance)

    def test_nothing_is_kept(self):
        text = self.TEXTS[1]
        first = dealt(0, 3, text, [1, 2])
        dealt(0, 3, text, [1, 2]).append(9)
        dealt(0, 4, text, [5, 6])
        self.assertEqual(dealt(0, 3, text, [1, 2]), first)

    def test_interface(self):
        self.assertEqual(list(inspect.signature(desk.deal).parameters), ["form", "secret", "text", "chance"])
        self.assertEqual(desk.deal(form=0, secret=3, text=bytes_of(THREE + "let x = a & b;"), chance=[2]), [2, 5, 0])

    def test_whole_numbers(self):
        for secret, chance in ((3, [1, 2]), (7, [1, 2]), (3, [])):
            answer = dealt(0, secret, self.TEXTS[1], chance)
            self.assertIs(type(answer), list)
            self.assertEqual({type(number) for number in answer}, {int})


if __name__ == "__main__":
    unittest.main()
