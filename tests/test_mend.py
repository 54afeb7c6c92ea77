"""mend: the fewest people whose parts have to be left out, and the secret of the others."""

import inspect
import itertools
import random
import time
import unittest

from helper import (GREATEST, LEAST, OVER_TEXT, WRONG_TEXTS, SecondReading, Trial, Untouchable, bytes_of, chances,
                    made_small_lets, owners, refused_at, small_enough)
from secretparts import desk

THREE = "field 7; who a, b, c; "
FIVE = "field 7; who a, b, c, d, e; "
WRONG = [-3]


def mended(form, text, parts):
    return desk.mend(form, bytes_of(text), list(parts))


def of_let(formula, parts, head=THREE):
    return mended(0, head + "let x = " + formula + ";", parts)


def tried(trial, people, parts):
    """By every set of people, every secret and every row of chance."""
    sets = sorted(range(2 ** people), key=lambda who: (bin(who).count("1"), who))
    for left_out in sets:
        others = 2 ** people - 1 - left_out
        secrets = trial.agreeing(others, trial.those_of(others, parts))
        if secrets:
            return [min(secrets) if len(secrets) == 1 else -6, left_out]


class WhoIsLeftOut(unittest.TestCase):
    def test_nobody_where_parts_are_as_they_were_dealt(self):
        for formula, secret, chance in (("a", 3, []), ("a & b", 3, [2]), ("a | b | c", 6, []), ("2 of (a, b, c)", 3, [5]),
                                        ("3 of (a, b, c)", 1, [2, 3]), ("(a & b) & (b & c)", 1, [2, 4, 6]),
                                        ("2 of (1 of (a), a | b, a & c)", 5, [1, 2]), ("a & a", 0, [6])):
            text = THREE + "let x = " + formula + ";"
            parts = desk.deal(0, secret, bytes_of(text), chance)[1:]
            self.assertEqual(mended(0, text, parts), [secret, 0], formula)

    def test_nobody_where_any_parts_agree(self):
        for parts in itertools.product(range(7), repeat=2):
            self.assertEqual(of_let("a & b", parts), [(2 * parts[0] - parts[1]) % 7, 0])

    def test_one_person(self):
        self.assertEqual(of_let("a | b | c", [4, 4, 5]), [4, 4])
        self.assertEqual(of_let("a | b | c", [4, 5, 4]), [4, 2])
        self.assertEqual(of_let("a | b | c", [5, 4, 4]), [4, 1])
        dealt = desk.deal(0, 3, bytes_of(FIVE + "let x = 2 of (a, b, c, d, e);"), [5])[1:]
        self.assertEqual(dealt, [1, 6, 4, 2, 0])
        for wrong in range(5):
            for number in range(7):
                parts = list(dealt)
                parts[wrong] = number
                expected = [3, 0 if parts == dealt else 1 << wrong]
                self.assertEqual(of_let("2 of (a, b, c, d, e)", parts, FIVE), expected)

    def test_two_and_more_people(self):
        self.assertEqual(of_let("a | b | c | d | e", [4, 1, 4, 2, 4], FIVE), [4, 10])
        self.assertEqual(of_let("a | b | c | d | e", [0, 1, 6, 2, 0], FIVE), [0, 14])
        self.assertEqual(of_let("2 of (a, b, c, d, e)", [1, 6, 4, 3, 1], FIVE), [3, 24])
        self.assertEqual(of_let("2 of (a, b, c, d, e)", [2, 5, 4, 2, 0], FIVE), [3, 3])

    def test_where_several_are_as_few_the_least_number(self):
        self.assertEqual(of_let("a | b", [4, 5]), [5, 1])
        self.assertEqual(of_let("b | a", [4, 5]), [4, 1])
        self.assertEqual(of_let("c | b", [4, 5]), [4, 2])
        self.assertEqual(of_let("a | b | c", [1, 2, 3]), [3, 3])
        self.assertEqual(of_let("2 of (a, b, c)", [1, 6, 5]), [1, 1])
        self.assertEqual(of_let("a | b | c | d", [1, 1, 2, 2], FIVE), [2, 3])
        self.assertEqual(of_let("a | b | c | d", [1, 2, 2, 1], FIVE), [1, 6])

    def test_fewer_ahead_of_a_lesser_number(self):
        self.assertEqual(of_let("a | b | c", [5, 5, 4]), [5, 4])
        self.assertEqual(of_let("a | b | c | d | e", [1, 1, 1, 1, 2], FIVE), [1, 16])
        self.assertEqual(of_let("a | b | c | d | e", [2, 1, 1, 1, 2], FIVE), [1, 17])

    def test_many_secrets_and_the_people_behind(self):
        self.assertEqual(of_let("(a | b) & c", [4, 5, 0]), [3, 1])
        self.assertEqual(of_let("(a | a) & c", [4, 5, 0]), [-6, 1])
        self.assertEqual(of_let("(c | c) & a", [4, 5, 0]), [-6, 4])
        self.assertEqual(of_let("b & (a & (c | c))", [1, 2, 3, 4]), [-6, 4])

    def test_everybody_who_has_a_place(self):
        self.assertEqual(of_let("a | a", [3, 4]), [-6, 1])
        self.assertEqual(of_let("c | c", [3, 4]), [-6, 4])
        self.assertEqual(of_let("a | a", [1, 2], "field 3; who a; "), [-6, 1])
        self.assertEqual(of_let("(a | a) & (b | b)", [1, 2, 3, 4]), [-6, 3])
        self.assertEqual(of_let("(a | a) & (b | b) & (c | c)", [1, 2, 3, 4, 5, 6]), [-6, 7])
        self.assertEqual(of_let("(a | a) | (b | b)", [1, 2, 2, 2]), [2, 1])

    def test_people_who_have_no_place(self):
        self.assertEqual(of_let("e", [4], FIVE), [4, 0])
        self.assertEqual(of_let("b | d", [4, 5], FIVE), [5, 2])
        self.assertEqual(of_let("e | d | e", [4, 5, 4], FIVE), [4, 8])
        self.assertEqual(of_let("d | e | d", [4, 5, 5], FIVE), [5, 8])

    def test_a_person_in_several_places(self):
        self.assertEqual(of_let("a | b | a", [4, 5, 4]), [5, 1])
        self.assertEqual(of_let("a | b | a | c", [4, 5, 4, 4]), [4, 2])
        self.assertEqual(of_let("a | b | a | c", [4, 5, 5, 5]), [5, 1])
        self.assertEqual(of_let("2 of (a, a, b, b)", [1, 6, 4, 3]), [0, 1])
        self.assertEqual(of_let("a & b | a & c", [3, 4, 5, 1]), [2, 0])
        self.assertEqual(of_let("a & b | a & c", [3, 4, 5, 2]), [-6, 1])

    def test_in_the_least_field(self):
        for secret in (0, 1):
            for formula in ("b", "1 of (b)", "1 of (1 of (b))"):
                self.assertEqual(of_let(formula, [secret], "field 2; who a, b; "), [secret, 0])
        self.assertEqual(of_let("1 of (b)", [2], "field 2; who a, b; "), WRONG)

    def test_lets_that_name_lets(self):
        text = THREE + "let x = a & b; let y = x | c; let z = y | x;"
        self.assertEqual(mended(1, text, [5, 0, 3]), [3, 0])
        self.assertEqual(mended(1, text, [5, 0, 4]), [4, 1])
        self.assertEqual(mended(2, text, [5, 0, 3, 4, 5]), [3, 0])
        self.assertEqual(mended(2, text, [5, 0, 3, 4, 6]), [3, 1])


class AgainstATrial(unittest.TestCase):
    def rows(self, chance, trial, prime):
        count = len(trial.owners)
        if prime ** count <= 130:
            return list(itertools.product(range(prime), repeat=count))
        rows = []
        for row in range(40):
            parts = list(chance.choice(trial.deals)[1])
            for bend in range(chance.randrange(4)):
                parts[chance.randrange(count)] = chance.randrange(prime)
            rows.append(parts)
        return rows + [[chance.randrange(prime) for place in range(count)] for row in range(20)]

    def hold(self, chance, text, form, read):
        trial = Trial(read.lets[form], read.prime)
        found = []
        for row in self.rows(chance, trial, read.prime):
            answer = mended(form, text, row)
            self.assertEqual(answer, tried(trial, read.people, row), (text, form, row))
            found.append(answer)
        return found

    def test_made_texts(self):
        chance = random.Random(71)
        answers, held = [], 0
        for text, read, form in made_small_lets(chance, 260):
            answers += self.hold(chance, text, form, read)
            held += 1
        self.assertGreater(held, 120)
        self.assertLessEqual({0, 1, 2, 3, 4, 5, 6, 8}, {answer[1] for answer in answers})
        self.assertLessEqual({-6, 0, 1}, {answer[0] for answer in answers})

    def test_five_people_in_each_field(self):
        chance = random.Random(72)
        for prime, formula in ((3, "((a & b) & (c & d)) | ((e | a) & (b | c)) & (d & e)"), (3, "(a | b) | ((c | d) | e)"),
                               (5, "3 of (a, b, c, d | e) | 3 of (e, d, c, b)"), (5, "2 of (a, b | c, d & e, a & d)"),
                               (7, "4 of (a, b, c, d, e, a)"), (7, "2 of (a, b, c, d, e) | 3 of (a, b, c, d, e)"),
                               (13, "3 of (a, b, c, d, e, a, b, c)"), (61, "2 of (a, b, c, d, e, a, b)"),
                               (61, "a | b | c & (d | e)"), (251, "a | b | c | d | e"), (251, "e")):
            text = "field %d; who a, b, c, d, e; let x = %s;" % (prime, formula)
            read = SecondReading(text)
            self.assertTrue(small_enough(read.lets[0], prime), formula)
            self.hold(chance, text, 0, read)


class Refused(unittest.TestCase):
    def test_how_many_parts(self):
        for formula, places in (("a", 1), ("a & b", 2), ("a & b | 2 of (a, c, a)", 5), ("1 of (1 of (c))", 1)):
            for count in list(range(9)) + [63, 64]:
                found = of_let(formula, [3] * count)
                self.assertEqual(found == WRONG, count != places, (formula, count))
                self.assertEqual(len(found), 1 if count != places else 2)

    def test_a_part_that_is_p_or_more(self):
        for place in range(3):
            for number, right in ((0, True), (6, True), (7, False), (8, False), (255, False)):
                parts = [1, 6, 4]
                parts[place] = number
                self.assertEqual(of_let("2 of (a, b, c)", parts) != WRONG, right, parts)
        head = "field 251; who a, b; "
        self.assertEqual(of_let("a | b", [250, 250], head), [250, 0])
        self.assertEqual(of_let("a | b", [250, 251], head), WRONG)
        self.assertEqual(of_let("a | b", [251, 251], head), WRONG)

    def test_a_refusal_is_its_number_alone(self):
        for answer in (mended(0, "", [1]), mended(0, OVER_TEXT, [1]), mended(1, THREE, [1]), of_let("a", []),
                       of_let("a", [0] * 65)):
            self.assertEqual(len(answer), 1)

    def test_more_than_64_numbers_ahead_of_all(self):
        for text in [text for text, place in WRONG_TEXTS] + [OVER_TEXT, THREE, THREE + "let x = a;"]:
            for form in (0, 1, -1):
                self.assertEqual(mended(form, text, [0] * 65), [-2])


class Order(unittest.TestCase):
    FORMS = (0, 1, -1, LEAST, GREATEST)
    PARTS = ([], [0], [255], [1, 2], [0] * 64)

    def test_a_wrong_text_ahead_of_all_else(self):
        for form in self.FORMS:
            for parts in self.PARTS:
                for text, place in WRONG_TEXTS:
                    self.assertEqual(mended(form, text, parts), refused_at(place), text)
                self.assertEqual(mended(form, OVER_TEXT, parts), [-5])

    def test_a_wrong_form_ahead_of_the_parts(self):
        for parts in self.PARTS:
            for form in (-1, 2, 3, 16, LEAST, GREATEST):
                self.assertEqual(mended(form, THREE + "let x = a | b; let y = a;", parts), [-2])
            for form in self.FORMS:
                self.assertEqual(mended(form, THREE, parts), [-2])

    def test_a_text_that_is_too_long(self):
        right = bytes_of(THREE + "let x = a;")
        blanks = [32] * (65536 - len(right))
        self.assertEqual(desk.mend(0, right + blanks, [4]), [4, 0])
        self.assertEqual(desk.mend(0, right + blanks + [32], [4]), [-2])
        self.assertEqual(desk.mend(0, [63] * 65537, [4]), [-2])


class Large(unittest.TestCase):
    HEAD = "field %d; who a, b, c, d, e; let x = %s;"

    def hold(self, text, form, chance, bends):
        read = SecondReading(text)
        formula = read.lets[form]
        self.assertTrue(small_enough(formula, read.prime))
        self.assertEqual(chances(formula), len(chance))
        parts = desk.deal(form, 2, bytes_of(text), chance)[1:]
        trial = Trial(formula, read.prime)
        for bend in bends:
            row = [(part + (owner in bend)) % read.prime for owner, part in zip(owners(formula), parts)]
            start = time.monotonic()
            found = mended(form, text, row)
            self.assertLess(time.monotonic() - start, 3)
            self.assertEqual(found, tried(trial, read.people, row), (text, row))

    def test_the_greatest_that_is_asked_for(self):
        bends = ((), (0,), (4,), (1, 3), (0, 2, 4), (0, 1, 2, 3))
        row = ", ".join("abcde"[number % 5] for number in range(24))
        self.hold(self.HEAD % (251, "1 of (%s)" % row), 0, [], bends)
        self.hold(self.HEAD % (61, "2 of (%s)" % row), 0, [60], bends)
        self.hold(self.HEAD % (3, "((a & b) & (c & d)) & ((e & a) & b)"), 0, [1, 2, 0, 1, 2, 1], bends)
        self.hold(self.HEAD % (3, "(((a & b) | (c & d)) | ((e & a) | (b & c))) | ((d & e) | (a & c))"), 0,
                  [1, 2, 0, 1, 2, 1], bends)
        self.hold(self.HEAD % (7, "2 of (a, b, c, d, e) | 3 of (a, b, c, d, e)"), 0, [6, 5, 4], bends)
        self.hold(self.HEAD % (13, "3 of (a, b, c, d, e, a, b, c, d, e)"), 0, [12, 11], bends)

    def test_24_places_where_everybody_is_wrong(self):
        row = ", ".join("abcde"[number % 5] for number in range(24))
        parts = [number // 5 for number in range(24)]
        self.assertEqual(of_let("1 of (%s)" % row, parts, "field 251; who a, b, c, d, e; "), [-6, 31])

    def test_brackets_40_within_one_another(self):
        for bracket in ("(", "1 of ("):
            self.assertEqual(of_let(bracket * 40 + "a | b | c" + ")" * 40, [5, 0, 5]), [5, 2])
            self.assertEqual(of_let(bracket * 40 + "a & b" + ")" * 40, [5, 0]), [3, 0])

    def test_a_text_of_600_bytes(self):
        text = "field 7;who p,q,r;let a=" + "1of(" * 40 + "p|q" + ")" * 40 + ";let b=a|a|a;let c=b|r|b|b;"
        text += "let d=" + "1of(" * 30 + "r&c" + ")" * 30 + ";"
        text = text.ljust(600)
        self.assertEqual(len(text), 600)
        self.hold(text, 3, [5], ((), (0,), (1,), (2,), (0, 1), (0, 1, 2)))


class LeftAlone(unittest.TestCase):
    TEXTS = (THREE, THREE + "let x = 2 of (a, b, c);", "", OVER_TEXT)

    def test_what_was_handed_in_is_as_it_was(self):
        for text in self.TEXTS:
            for form, parts in ((0, [1, 6, 4]), (0, [1, 6, 5]), (0, [1]), (0, [1, 2, 7]), (5, [1])):
                handed, numbers = Untouchable(bytes_of(text)), Untouchable(parts)
                desk.mend(form, handed, numbers)
                self.assertEqual(list(handed), bytes_of(text))
                self.assertEqual(list(numbers), parts)

    def test_nothing_is_kept(self):
        for turn in range(3):
            self.assertEqual(mended(0, self.TEXTS[1], [1, 6, 4]), [3, 0])
            self.assertEqual(mended(0, self.TEXTS[1], [1, 6, 5]), [1, 1])
            mended(0, self.TEXTS[1], [1, 6, 4]).append(9)

    def test_interface(self):
        self.assertEqual(list(inspect.signature(desk.mend).parameters), ["form", "text", "parts"])
        self.assertEqual(desk.mend(form=0, text=bytes_of(THREE + "let x = a & b;"), parts=[5, 0]), [3, 0])

    def test_whole_numbers(self):
        for parts in ([1, 6, 4], [1, 6, 5], [1], [1, 2, 7]):
            answer = mended(0, self.TEXTS[1], parts)
            self.assertIs(type(answer), list)
            self.assertEqual({type(number) for number in answer}, {int})


if __name__ == "__main__":
    unittest.main()
