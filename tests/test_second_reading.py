"""check and allowed against a second, recursive reading of the document, over many texts."""

import random
import unittest

from helper import SecondReading, Wrong, bytes_of, made_text, may, places
from secretparts.desk import allowed, check

PIECES = ("field ", "who ", "let ", "of ", "a", "b", "c", "x", "y", "z", "0", "1", "2", "3", "5", "(", ")", ",", ";",
          "=", "&", "|", " ", "\n", "#", "#\n", "?", "A", "_", "abcdefghijklmnop", "123456", " 2 of (", "let x = ")


def expected(form, who, text):
    """What check answers, and what allowed does."""
    try:
        read = SecondReading(text)
    except Wrong as wrong:
        return [-100 - wrong.args[0]], [-100 - wrong.args[0]]
    over = read.people > 10 or len(read.lets) > 16 or read.wide >= read.prime
    if over or max([places(formula) for formula in read.lets], default=0) > 24:
        return [-5], [-5]
    if not 0 <= form < len(read.lets) or not 0 <= who < 2 ** read.people:
        return [len(read.lets)], [-2]
    return [len(read.lets)], [int(may(read.lets[form], who))]


def bent(chance, text):
    start = chance.randrange(len(text) + 1)
    end = min(len(text), start + chance.randrange(3))
    return text[:start] + chance.choice(PIECES + ("",)) + text[end:]


class Agree(unittest.TestCase):
    def compare(self, chance, text):
        form, who = chance.randrange(-1, 4), chance.randrange(-1, 17)
        found = check(bytes_of(text)), allowed(form, who, bytes_of(text))
        self.assertEqual(found, expected(form, who, text), (form, who, text))
        return found[1][0]

    def test_made_texts_and_bent_ones(self):
        chance = random.Random(20)
        answers = set()
        for turn in range(3000):
            text = made_text(chance)
            answers.add(self.compare(chance, text))
            for bend in range(3):
                text = bent(chance, text)
                answers.add(self.compare(chance, text))
        self.assertLessEqual({0, 1, -2, -5, -100}, answers)

    def test_texts_cut_off(self):
        chance = random.Random(21)
        for turn in range(60):
            text = made_text(chance)
            for end in range(len(text)):
                self.compare(chance, text[:end])


if __name__ == "__main__":
    unittest.main()
