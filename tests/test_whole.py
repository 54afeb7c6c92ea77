"""The whole program: all eight functions beside one another."""

import builtins
import contextlib
import inspect
import io
import itertools
import random
import subprocess
import sys
import unittest
from pathlib import Path

from helper import (GREATEST, LEAST, OVER_TEXT, WRONG_TEXTS, Untouchable, bytes_of, chances, made_lets, made_text, owners,
                    refused_at)
from secretparts import desk

ROOT = Path(__file__).resolve().parent.parent
RIGHT = ("field 7; who a, b, c; let x = 2 of (a, b, c); let y = a & (b | c) | x; "
         "let z = a & b | b & c | c & a;")
NAMES = ("check", "allowed", "least", "told", "deal", "open_by", "mend", "same")
ARGUMENTS = {
    "check": ["text"],
    "allowed": ["form", "who", "text"],
    "least": ["form", "most", "text"],
    "told": ["form", "turned", "most", "text"],
    "deal": ["form", "secret", "text", "chance"],
    "open_by": ["form", "who", "text", "parts"],
    "mend": ["form", "text", "parts"],
    "same": ["form", "other", "text"],
}
# Whole numbers of each argument that is no list, and lists of those that are.
NUMBERS = (0, 1, 2, 3, -1, 7, 8, LEAST, GREATEST)
LISTS = ([], [5], [1, 6, 4], [1, 6, 5], [7, 0, 0], [255], [0] * 64)

# Calls of RIGHT with their answers.
ANSWERS = (
    (("check",), [3]),
    (("allowed", 0, 5), [1]),
    (("allowed", 0, 4), [0]),
    (("least", 0, 9), [3, 3, 5, 6]),
    (("least", 0, 2), [-1]),
    (("told", 0, 0, 99), [14] + bytes_of("2 of (a, b, c)")),
    (("told", 1, 1, 99), [28] + bytes_of("(a | b & c) & 2 of (a, b, c)")),
    (("told", 2, 0, 0), [-1]),
    (("deal", 0, 3, [5]), [3, 1, 6, 4]),
    (("deal", 0, 7, [5]), [-3]),
    (("open_by", 0, 5, [1, 4]), [3]),
    (("open_by", 0, 7, [1, 6, 5]), [-4]),
    (("open_by", 0, 4, [4]), [-6]),
    (("mend", 0, [1, 6, 4]), [3, 0]),
    (("mend", 0, [1, 6, 5]), [1, 1]),
    (("mend", 0, [1, 6]), [-3]),
    (("same", 0, 2), [1]),
    (("same", 0, 3), [-2]),
)


def called(name, numbers, text):
    """Calls by name, the text put in among the other arguments where it belongs."""
    arguments = list(numbers)
    arguments.insert(ARGUMENTS[name].index("text"), text)
    return getattr(desk, name)(*arguments)


def all_calls():
    """Each function with all its arguments but the text."""
    for name in NAMES:
        rest = [argument for argument in ARGUMENTS[name] if argument != "text"]
        for row in itertools.product(*[LISTS if argument in ("chance", "parts") else NUMBERS for argument in rest]):
            yield name, row


class Interface(unittest.TestCase):
    def test_names_and_arguments(self):
        for name, arguments in ARGUMENTS.items():
            self.assertEqual(list(inspect.signature(getattr(desk, name)).parameters), arguments)

    def test_answers_are_plain_lists_of_whole_numbers(self):
        for name, row in all_calls():
            answer = called(name, row, bytes_of(RIGHT))
            self.assertIs(type(answer), list)
            self.assertEqual({type(number) for number in answer}, {int})

    def test_a_refusal_is_its_number_alone_but_for_mends_6(self):
        for name, row in all_calls():
            for text in (RIGHT, OVER_TEXT, "?", "field 7; who a, b; let x = (a | a | a) & b;"):
                answer = called(name, row, bytes_of(text))
                if answer[0] < 0 and not (name == "mend" and answer[0] == -6):
                    self.assertEqual(len(answer), 1, (name, row))
                elif name in ("least", "told", "deal"):
                    self.assertEqual(len(answer), answer[0] + 1)
                else:
                    self.assertEqual(len(answer), 2 if name == "mend" else 1)


class Order(unittest.TestCase):
    def ahead(self, name, row):
        return name in ("least", "told") and row[-1] < 0

    def test_a_wrong_text(self):
        for name, row in all_calls():
            for text, place in WRONG_TEXTS:
                expected = [-2] if self.ahead(name, row) else refused_at(place)
                self.assertEqual(called(name, row, bytes_of(text)), expected, (name, row, text))

    def test_a_text_over_its_limits(self):
        for name, row in all_calls():
            expected = [-2] if self.ahead(name, row) else [-5]
            self.assertEqual(called(name, row, bytes_of(OVER_TEXT)), expected, (name, row))

    def test_a_form_that_is_no_lets_number(self):
        for name, row in all_calls():
            if name != "check" and not 0 <= row[0] < 3:
                self.assertEqual(called(name, row, bytes_of(RIGHT)), [-2], (name, row))


class EachCallByItself(unittest.TestCase):
    def test_in_any_order_and_more_than_once(self):
        chance = random.Random(91)
        calls = list(ANSWERS) * 3
        for turn in range(30):
            chance.shuffle(calls)
            text = bytes_of(RIGHT)
            for call, expected in calls:
                answer = called(call[0], call[1:], text)
                self.assertEqual(answer, expected, call)
                answer.append(9)
            self.assertEqual(text, bytes_of(RIGHT))

    def test_other_texts_in_between(self):
        chance = random.Random(92)
        others = [text for text, place in WRONG_TEXTS] + [OVER_TEXT] + [made_text(chance) for turn in range(20)]
        for call, expected in ANSWERS:
            for other in others:
                called(call[0], call[1:], bytes_of(other))
                self.assertEqual(called(call[0], call[1:], bytes_of(RIGHT)), expected, call)

    def test_as_in_a_program_that_has_just_begun(self):
        for call, expected in ANSWERS:
            arguments = list(call[1:])
            arguments.insert(ARGUMENTS[call[0]].index("text"), bytes_of(RIGHT))
            program = "from secretparts import desk; print(desk.%s(*%r))" % (call[0], arguments)
            said = subprocess.run([sys.executable, "-c", program], cwd=ROOT, capture_output=True, text=True, check=True)
            self.assertEqual((said.stdout, said.stderr), ("%r\n" % expected, ""))

    def test_made_texts_twice(self):
        chance = random.Random(93)
        for turn in range(40):
            text = made_text(chance)
            calls = [(name, row) for name, row in all_calls() if chance.randrange(40) == 0]
            first = [called(name, row, bytes_of(text)) for name, row in calls]
            again = [called(name, row, bytes_of(text)) for name, row in reversed(calls)]
            self.assertEqual(first, again[::-1], text)


class LeftAlone(unittest.TestCase):
    def test_what_was_handed_in_is_as_it_was(self):
        for name, row in all_calls():
            for text in (RIGHT, OVER_TEXT, "field 7; who a, b; let x = a & (b | "):
                handed = Untouchable(bytes_of(text))
                copies = [Untouchable(given) if isinstance(given, list) else given for given in row]
                called(name, copies, handed)
                self.assertEqual(list(handed), bytes_of(text))
                self.assertEqual([list(given) if isinstance(given, list) else given for given in copies], list(row))

    def test_nothing_is_printed_read_or_imported(self):
        said = io.StringIO()
        text = bytes_of(RIGHT)
        modules = sorted(sys.modules)

        def refused(*args, **kwargs):
            raise RuntimeError("a file is opened or a module imported")

        kept = builtins.open, builtins.input, builtins.__import__
        builtins.open = builtins.input = builtins.__import__ = refused
        try:
            with contextlib.redirect_stdout(said), contextlib.redirect_stderr(said):
                for call, expected in ANSWERS:
                    called(call[0], call[1:], text)
        finally:
            builtins.open, builtins.input, builtins.__import__ = kept
        self.assertEqual(said.getvalue(), "")
        self.assertEqual(sorted(sys.modules), modules)


class TogetherOnOneText(unittest.TestCase):
    """What one function answers holds with what the others do."""

    def hold(self, chance, text, form, read):
        formula = read.lets[form]
        handed = bytes_of(text)
        everybody = 2 ** read.people - 1
        secret = chance.randrange(read.prime)
        row = [chance.randrange(read.prime) for number in range(chances(formula))]
        parts = desk.deal(form, secret, handed, row)[1:]
        self.assertEqual(desk.mend(form, handed, parts), [secret, 0])
        least = desk.least(form, 10 ** 6, handed)[1:]
        for who in range(everybody + 1):
            own = [part for owner, part in zip(owners(formula), parts) if who >> owner & 1]
            may = desk.allowed(form, who, handed) == [1]
            self.assertEqual(desk.open_by(form, who, handed, own), [secret] if may else [-6], text)
            self.assertEqual(may, any(one & who == one for one in least), text)

    def hold_told(self, text, form, read):
        handed = bytes_of(text)
        told = bytes(desk.told(form, 0, 10 ** 6, handed)[1:]).decode()
        again = bytes_of(text + "let fresh_1 = " + told + "; ")
        self.assertEqual(desk.check(again), [len(read.lets) + 1])
        self.assertEqual(desk.same(form, len(read.lets), again), [1])
        for turned in (0, 1):
            self.assertEqual(desk.told(len(read.lets), turned, 10 ** 6, again), desk.told(form, turned, 10 ** 6, handed))

    def test_made_texts(self):
        chance = random.Random(94)
        held = 0
        for text, read, form in made_lets(chance, 500):
            self.hold(chance, text, form, read)
            self.hold_told(text, form, read)
            held += 1
        self.assertGreater(held, 300)


class Large(unittest.TestCase):
    def hold(self, text, parts, told):
        """A text of which all may with all parts, and which takes no chance but what parts tell of."""
        handed = bytes_of(text)
        self.assertLessEqual(len(handed), 600)
        self.assertEqual(desk.check(handed), [1])
        self.assertEqual([desk.allowed(0, who, handed) for who in range(4)], [[0], [0], [0], [1]])
        self.assertEqual(desk.least(0, 1, handed), [1, 3])
        self.assertEqual(desk.told(0, 0, 1000, handed), [len(told)] + bytes_of(told))
        self.assertEqual(desk.deal(0, 3, handed, [2]), [len(parts)] + parts)
        self.assertEqual(desk.open_by(0, 3, handed, parts), [3])
        self.assertEqual(desk.mend(0, handed, parts), [3, 0])
        self.assertEqual(desk.same(0, 0, handed), [1])

    def test_brackets_40_within_one_another(self):
        head = "field 7; who a, b; let x = "
        self.hold(head + "(" * 40 + "a & b" + ")" * 40 + ";", [5, 0], "a & b")
        deep = "1 of (" * 40 + "a & b" + ")" * 40
        self.hold(head + deep + ";", [5, 0], deep)

    def test_600_bytes(self):
        head = "field 7; who a, b; let x = "
        self.hold((head + "(" * 40 + "a & b" + ")" * 40 + "; #").ljust(600, "#"), [5, 0], "a & b")
        self.hold("# " + "z" * (600 - 3 - len(head + "a & b;")) + "\n" + head + "a & b;", [5, 0], "a & b")

    def test_600_bytes_that_are_refused(self):
        head = "field 7; who a, b; let x = "
        for text, place in ((head + "(" * 40 + "a & b" + ")" * 39 + ";", len(head) + 84), (head + "(" * 40, 600),
                            (head + "a & " * 140, 600), (head + "a & b; let y = x &", 600)):
            text = text.ljust(600)
            self.assertEqual(len(text), 600)
            for name, row in all_calls():
                if not (name in ("least", "told") and row[-1] < 0):
                    self.assertEqual(called(name, row, bytes_of(text)), refused_at(place))


if __name__ == "__main__":
    unittest.main()
