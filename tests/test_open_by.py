"""open_by: the secret that agrees with some people's parts."""

import inspect
import itertools
import random
import time
import unittest

from helper import (GREATEST, LEAST, OVER_TEXT, WRONG_TEXTS, SecondReading, Trial, Untouchable, asked, bytes_of,
                    chances, made_small_lets, owners, refused_at, small_enough, with_people)
from secretparts import desk

THREE = "field 7; who a, b, c; "
WRONG = [-3]
NONE = [-4]
MANY = [-6]

# A formula in field 7, the secret, the chance, all parts.
DEALS = (
    ("a", 3, [], [3]),
    ("a & b", 3, [2], [5, 0]),
    ("a | b", 4, [], [4, 4]),
    ("2 of (a, b, c)", 3, [5], [1, 6, 4]),
    ("3 of (a, b, c)", 1, [2, 3], [6, 3, 6]),
    ("a & (b | c)", 3, [2], [5, 0, 0]),
    ("a | b & c", 3, [4], [3, 0, 4]),
    ("(a & b) & c", 1, [2, 4], [0, 4, 5]),
    ("2 of (1 of (a), a | b, a & c)", 5, [1, 2], [6, 0, 0, 3, 5]),
    ("2 of (a, a, b)", 3, [5], [1, 6, 4]),
)


def opened(form, who, text, parts):
    return desk.open_by(form, who, bytes_of(text), list(parts))


def of_let(formula, who, parts, head=THREE):
    return opened(0, who, head + "let x = " + formula + ";", parts)


def those_of(who, formula, parts):
    return [part for owner, part in zip(owners(formula), parts) if who >> owner & 1]


class WhatWasDealt(unittest.TestCase):
    def test_by_who_may_and_by_who_may_not(self):
        for formula, secret, chance, parts in DEALS:
            text = THREE + "let x = " + formula + ";"
            self.assertEqual(desk.deal(0, secret, bytes_of(text), chance), [len(parts)] + parts)
            read = SecondReading(text).lets[0]
            for who in range(8):
                expected = [secret] if asked(0, who, text) == [1] else MANY
                self.assertEqual(opened(0, who, text, those_of(who, read, parts)), expected, (formula, who))

    def test_reckoned_by_hand(self):
        self.assertEqual(of_let("2 of (a, b, c)", 3, [1, 6]), [3])
        self.assertEqual(of_let("2 of (a, b, c)", 5, [1, 4]), [3])
        self.assertEqual(of_let("2 of (a, b, c)", 6, [6, 4]), [3])
        self.assertEqual(of_let("2 of (a, b, c)", 7, [1, 6, 4]), [3])
        self.assertEqual(of_let("2 of (a, b, c)", 1, [1]), MANY)
        self.assertEqual(of_let("2 of (a, b, c)", 0, []), MANY)
        self.assertEqual(of_let("a & b", 3, [2, 2]), [2])
        self.assertEqual(of_let("a & b", 3, [0, 6]), [1])
        self.assertEqual(of_let("3 of (a, b, c)", 7, [6, 3, 6]), [1])
        self.assertEqual(of_let("3 of (a, b, c)", 6, [3, 6]), MANY)

    def test_nobody_and_all(self):
        for formula, secret, chance, parts in DEALS:
            self.assertEqual(of_let(formula, 0, []), MANY)
            self.assertEqual(of_let(formula, 7, parts), [secret])

    def test_in_the_least_field(self):
        head = "field 2; who a, b; "
        for formula in ("a", "1 of (a)", "1 of (1 of (a))"):
            self.assertEqual(of_let(formula, 0, [], head), MANY)
            self.assertEqual(of_let(formula, 2, [], head), MANY)
            self.assertEqual(of_let(formula, 1, [2], head), WRONG)
            for secret in (0, 1):
                self.assertEqual(of_let(formula, 1, [secret], head), [secret])
                self.assertEqual(of_let(formula, 3, [secret], head), [secret])

    def test_people_who_have_no_place(self):
        self.assertEqual(of_let("b", 5, []), MANY)
        self.assertEqual(of_let("b", 7, [4]), [4])
        self.assertEqual(of_let("a & c", 7, [5, 0]), [3])
        self.assertEqual(of_let("a & c", 3, [5]), MANY)
        self.assertEqual(of_let("b", 5, [4]), WRONG)

    def test_lets_that_name_lets(self):
        text = THREE + "let x = a & b; let y = x & x; let z = x; let u = y | c;"
        self.assertEqual(opened(1, 3, text, [0, 4, 4, 3]), [1])
        self.assertEqual(opened(2, 3, text, [0, 4]), [3])
        self.assertEqual(opened(3, 7, text, [0, 4, 4, 3, 1]), [1])
        self.assertEqual(opened(3, 7, text, [0, 4, 4, 3, 2]), NONE)
        self.assertEqual(opened(3, 4, text, [2]), [2])
        self.assertEqual(opened(1, 1, text, [0, 4]), MANY)


class WhatNoChanceDeals(unittest.TestCase):
    def test_by_people_who_may(self):
        self.assertEqual(of_let("a | b", 3, [4, 5]), NONE)
        self.assertEqual(of_let("2 of (a, b, c)", 7, [1, 6, 5]), NONE)
        self.assertEqual(of_let("2 of (a, b, c)", 7, [1, 5, 4]), NONE)
        self.assertEqual(of_let("2 of (a, b, c)", 7, [2, 6, 4]), NONE)
        self.assertEqual(of_let("a & b | c", 7, [5, 0, 4]), NONE)
        self.assertEqual(of_let("a & b | c", 7, [5, 0, 3]), [3])
        self.assertEqual(of_let("a & b | c", 3, [5, 0]), [3])

    def test_by_people_who_may_not(self):
        self.assertEqual(of_let("(a | b) & c", 3, [4, 5]), NONE)
        self.assertEqual(of_let("(a | b) & c", 3, [4, 4]), MANY)
        self.assertEqual(of_let("2 of (a, a, b) & c", 1, [1, 6]), MANY)
        self.assertEqual(of_let("3 of (a, 1 of (a, b), c, c)", 3, [1, 2, 3]), NONE)
        self.assertEqual(of_let("3 of (a, 1 of (a, b), c, c)", 3, [1, 2, 2]), MANY)

    def test_a_person_in_several_places_at_odds(self):
        self.assertEqual(of_let("a | a", 1, [3, 3]), [3])
        self.assertEqual(of_let("a | a", 1, [3, 4]), NONE)
        self.assertEqual(of_let("(a | a) & b", 1, [3, 4]), NONE)
        self.assertEqual(of_let("(a | a) & b", 1, [3, 3]), MANY)
        self.assertEqual(of_let("(a | a) & b", 3, [5, 5, 0]), [3])
        self.assertEqual(of_let("(a | a) & b", 3, [5, 4, 0]), NONE)
        self.assertEqual(of_let("(a | a) & b", 2, [0]), MANY)
        self.assertEqual(of_let("2 of (a, a, a)", 1, [1, 6, 4]), [3])
        self.assertEqual(of_let("2 of (a, a, a)", 1, [1, 6, 3]), NONE)
        self.assertEqual(of_let("a & a", 1, [5, 0]), [3])


class AgainstATrial(unittest.TestCase):
    def rows(self, chance, trial, who, prime):
        count = len(trial.those_of(who, trial.deals[0][1]))
        if prime ** count <= 130:
            return list(itertools.product(range(prime), repeat=count))
        rows = [trial.those_of(who, chance.choice(trial.deals)[1]) for row in range(12)]
        for row in list(rows):
            place = chance.randrange(count)
            rows.append(row[:place] + (chance.randrange(prime),) + row[place + 1:])
        return rows + [tuple(chance.randrange(prime) for place in range(count)) for row in range(12)]

    def hold(self, chance, text, form, read):
        trial = Trial(read.lets[form], read.prime)
        answers = set()
        for who in range(2 ** read.people):
            for row in self.rows(chance, trial, who, read.prime):
                expected = trial.opened(who, row)
                self.assertEqual(opened(form, who, text, row), [expected], (text, form, who, row))
                answers.add(min(expected, 0))
        return answers

    def test_made_texts(self):
        chance = random.Random(61)
        answers, held = set(), 0
        for text, read, form in made_small_lets(chance, 320):
            answers |= self.hold(chance, text, form, read)
            held += 1
        self.assertEqual(answers, {0, -4, -6})
        self.assertGreater(held, 150)

    def test_each_field_with_as_much_chance_as_is_asked_for(self):
        chance = random.Random(62)
        for prime, formulas in (
                (3, ("(a & b) & (b & c) | (a & c) & (a & b)", "a & (b & (c & (a & (b & (c & a)))))",
                     "(a & (b | a)) & (c & b)")),
                (5, ("3 of (a, b, c & (a | b), a & c)", "4 of (a, b, c, a) | a & b", "a & b & c & a")),
                (7, ("3 of (a, b, c, a, b, c) | a & b", "2 of (a & b, b & c, c | a)", "4 of (a, a, b, b, c, c)")),
                (13, ("3 of (a, b, c, a, b, c, a, b)", "2 of (a & b, a, c)")),
                (61, ("2 of (a, b, c, a, b)", "a & (b | c)", "a | b | a & c")),
                (251, ("a | b | c", "1 of (a, 1 of (b), a | c)", "c"))):
            for formula in formulas:
                text = "field %d; who a, b, c; let x = %s;" % (prime, formula)
                read = SecondReading(text)
                self.assertTrue(small_enough(read.lets[0], prime), formula)
                self.hold(chance, text, 0, read)


class Refused(unittest.TestCase):
    def test_who(self):
        for people in range(1, 11):
            text = "field 11; who %s; let x = p0;" % with_people(people)
            self.assertEqual(opened(0, 2 ** people - 1, text, [4]), [4])
            for who in (-1, -2, 2 ** people, 2 ** people + 1, 2 ** 30, LEAST, GREATEST):
                for parts in ([], [4], [4, 4]):
                    self.assertEqual(opened(0, who, text, parts), [-2], who)

    def test_how_many_parts(self):
        formula = "a & b | 2 of (a, c, a)"
        for who, has in ((0, 0), (1, 3), (2, 1), (3, 4), (4, 1), (5, 4), (6, 2), (7, 5)):
            for count in list(range(9)) + [63, 64]:
                found = of_let(formula, who, [3] * count)
                self.assertEqual(found == WRONG, count != has, (who, count))

    def test_a_part_that_is_p_or_more(self):
        for place in range(3):
            for number, right in ((0, True), (6, True), (7, False), (8, False), (255, False)):
                parts = [1, 6, 4]
                parts[place] = number
                self.assertEqual(of_let("2 of (a, b, c)", 7, parts) != WRONG, right, parts)
        head = "field 251; who a, b; "
        self.assertEqual(of_let("a | b", 3, [250, 250], head), [250])
        self.assertEqual(of_let("a | b", 3, [250, 251], head), WRONG)
        self.assertEqual(of_let("a | b", 3, [251, 251], head), WRONG)
        self.assertEqual(of_let("a | b", 1, [255], head), WRONG)
        self.assertEqual(of_let("a & b", 1, [7]), WRONG)

    def test_more_than_64_numbers_ahead_of_all(self):
        for text in [text for text, place in WRONG_TEXTS] + [OVER_TEXT, THREE, THREE + "let x = a;"]:
            for form in (0, 1, -1):
                for who in (0, 1, -1, 8):
                    self.assertEqual(opened(form, who, text, [0] * 65), [-2])


class Order(unittest.TestCase):
    FORMS = (0, 1, -1, LEAST, GREATEST)
    WHO = (0, 1, -1, 8, LEAST, GREATEST)
    PARTS = ([], [0], [255], [1, 2], [0] * 64)

    def test_a_wrong_text_ahead_of_all_else(self):
        for form in self.FORMS:
            for who in self.WHO:
                for parts in self.PARTS:
                    for text, place in WRONG_TEXTS:
                        self.assertEqual(opened(form, who, text, parts), refused_at(place), text)
                    self.assertEqual(opened(form, who, OVER_TEXT, parts), [-5])

    def test_a_wrong_form_ahead_of_the_parts(self):
        for who in self.WHO:
            for parts in self.PARTS:
                for form in (-1, 2, 3, 16, LEAST, GREATEST):
                    self.assertEqual(opened(form, who, THREE + "let x = a | b; let y = a;", parts), [-2])
                for form in self.FORMS:
                    self.assertEqual(opened(form, who, THREE, parts), [-2])

    def test_a_wrong_who_ahead_of_the_parts(self):
        for who in (-1, 8, 9, LEAST, GREATEST):
            for parts in self.PARTS:
                self.assertEqual(opened(0, who, THREE + "let x = a | b;", parts), [-2])

    def test_wrong_parts_ahead_of_what_agrees(self):
        self.assertEqual(of_let("a | b | c", 7, [1, 2, 7]), WRONG)
        self.assertEqual(of_let("a | b | c", 7, [1, 2]), WRONG)
        self.assertEqual(of_let("a | b | c", 7, [1, 2, 3, 4]), WRONG)
        self.assertEqual(of_let("a | b | c", 7, [1, 2, 3]), NONE)
        self.assertEqual(of_let("a & b & c", 3, [1, 7]), WRONG)
        self.assertEqual(of_let("a & b & c", 0, [1]), WRONG)
        self.assertEqual(of_let("a & b & c", 3, [1, 6]), MANY)

    def test_a_text_that_is_too_long(self):
        right = bytes_of(THREE + "let x = a;")
        blanks = [32] * (65536 - len(right))
        self.assertEqual(desk.open_by(0, 1, right + blanks, [4]), [4])
        self.assertEqual(desk.open_by(0, 1, right + blanks + [32], [4]), [-2])
        self.assertEqual(desk.open_by(0, 1, [63] * 65537, [4]), [-2])


class Large(unittest.TestCase):
    def hold(self, text, form, who, chance, secret=2):
        """A dealt secret is opened, or not, within a few seconds; a bent part is seen as a trial sees it."""
        read = SecondReading(text)
        formula = read.lets[form]
        self.assertTrue(small_enough(formula, read.prime))
        self.assertEqual(chances(formula), len(chance))
        parts = desk.deal(form, secret, bytes_of(text), chance)[1:]
        own = those_of(who, formula, parts)
        trial = Trial(formula, read.prime)
        for bent in range(-1, len(own)):
            row = [(part + (place == bent)) % read.prime for place, part in enumerate(own)]
            start = time.monotonic()
            found = opened(form, who, text, row)
            self.assertLess(time.monotonic() - start, 3)
            self.assertEqual(found, [trial.opened(who, row)], (text, row))
        return opened(form, who, text, own)

    def test_the_greatest_that_is_asked_for(self):
        head = "field %d; who %s; let x = %s;"
        six = "((p0 & p1) & (p2 & p3)) & ((p4 & p5) & p6)"
        self.assertEqual(self.hold(head % (3, with_people(10), six), 0, 127, [1, 2, 0, 1, 2, 1]), [2])
        self.assertEqual(self.hold(head % (3, with_people(10), six), 0, 126, [1, 2, 0, 1, 2, 1]), MANY)
        row = ",".join("p%d" % (number % 10) for number in range(24))
        self.assertEqual(self.hold(head % (251, with_people(10), "1 of (%s)" % row), 0, 1023, []), [2])
        self.assertEqual(self.hold(head % (251, with_people(10), "1 of (%s)" % row), 0, 0, []), MANY)
        self.assertEqual(self.hold(head % (61, with_people(10), "2 of (%s)" % row), 0, 1023, [60]), [2])
        self.assertEqual(self.hold(head % (61, with_people(10), "2 of (%s)" % row), 0, 1, [60]), [2])
        four = "p0 & p1 & p2 | 2 of (p3, p4, p5, p6) | (p7 | p8) & (p9 | p0 | p1 | p2)"
        self.assertEqual(self.hold(head % (5, with_people(10), four), 0, 1023, [4, 3, 2, 1]), [2])
        self.assertEqual(self.hold(head % (5, with_people(10), four), 0, 11, [4, 3, 2, 1]), MANY)
        three = "2 of (2 of (p0, p1, p2, p3, p4), p5 & p6, p7, p8, p9, p0)"
        self.assertEqual(self.hold(head % (7, with_people(10), three), 0, 1023, [6, 5, 4]), [2])

    def test_24_places_in_the_least_fields(self):
        nested = "|".join("((p%d|p%d)|(p%d|p%d))" % (number, number + 1, number + 2, number + 3) for number in (0, 4))
        nested = "(%s)|((p8|p9)|(p0|p1))" % nested
        text = "field 3; who %s; let x = %s; let y = x|x;" % (with_people(10), nested)
        self.assertEqual(len(owners(SecondReading(text).lets[1])), 24)
        self.assertEqual(self.hold(text, 1, 1023, []), [2])
        self.assertEqual(self.hold(text, 1, 4, []), [2])

    def test_brackets_40_within_one_another(self):
        for bracket in ("(", "1 of ("):
            formula = bracket * 40 + "a & b" + ")" * 40
            self.assertEqual(of_let(formula, 3, [5, 0]), [3])
            self.assertEqual(of_let(formula, 1, [5]), MANY)
            formula = bracket * 40 + "a | b" + ")" * 40
            self.assertEqual(of_let(formula, 3, [5, 0]), NONE)

    def test_a_text_of_600_bytes(self):
        text = "field 7;who p,q,r;let a=" + "1of(" * 40 + "p|q" + ")" * 40 + ";let b=a|a|a;let c=b|r|b|b;"
        text += "let d=" + "1of(" * 30 + "r&c" + ")" * 30 + ";"
        text = text.ljust(600)
        self.assertEqual(len(text), 600)
        self.assertEqual(self.hold(text, 3, 7, [5]), [2])
        self.assertEqual(self.hold(text, 3, 4, [5]), [2])
        self.assertEqual(self.hold(text, 3, 3, [5]), MANY)

    def test_more_than_is_asked_for(self):
        names = ["p%d" % (number % 10) for number in range(24)]
        text = "field 251; who %s; let x = 12 of (%s);" % (with_people(10), ",".join(names))
        chance = [(number * 37 + 5) % 251 for number in range(11)]
        parts = desk.deal(0, 77, bytes_of(text), chance)[1:]
        self.assertEqual(opened(0, 1023, text, parts), [77])
        for place in range(24):
            bent = list(parts)
            bent[place] = (bent[place] + 1) % 251
            self.assertEqual(opened(0, 1023, text, bent), NONE)


class LeftAlone(unittest.TestCase):
    TEXTS = (THREE, THREE + "let x = 2 of (a, b, c);", "", OVER_TEXT)

    def test_what_was_handed_in_is_as_it_was(self):
        for text in self.TEXTS:
            for form, who, parts in ((0, 7, [1, 6, 4]), (0, 7, [1, 6, 5]), (0, 1, [1]), (0, 1, [1, 2]), (0, 1, [7]),
                                     (5, 1, [1]), (0, -1, [1])):
                handed, numbers = Untouchable(bytes_of(text)), Untouchable(parts)
                desk.open_by(form, who, handed, numbers)
                self.assertEqual(list(handed), bytes_of(text))
                self.assertEqual(list(numbers), parts)

    def test_nothing_is_kept(self):
        text = self.TEXTS[1]
        for turn in range(3):
            self.assertEqual(opened(0, 7, text, [1, 6, 4]), [3])
            self.assertEqual(opened(0, 7, text, [1, 6, 5]), NONE)
            self.assertEqual(opened(0, 1, text, [1]), MANY)
            opened(0, 7, text, [1, 6, 4]).append(9)

    def test_interface(self):
        self.assertEqual(list(inspect.signature(desk.open_by).parameters), ["form", "who", "text", "parts"])
        text = bytes_of(THREE + "let x = a & b;")
        self.assertEqual(desk.open_by(form=0, who=3, text=text, parts=[5, 0]), [3])

    def test_whole_numbers(self):
        for who, parts in ((7, [1, 6, 4]), (7, [1, 6, 5]), (1, [1]), (1, []), (-1, [])):
            answer = opened(0, who, self.TEXTS[1], parts)
            self.assertIs(type(answer), list)
            self.assertEqual([type(number) for number in answer], [int])


if __name__ == "__main__":
    unittest.main()
