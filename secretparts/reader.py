"""The tokens one after another, each refused where it can't stand."""

from secretparts.refusals import CannotStand
from secretparts.tokens import NAME, NUMBER

GREATEST_PRIME = 251


class Reader:
    def __init__(self, tokens):
        self.tokens = tokens
        self.at = 0

    def now(self):
        return self.tokens[self.at]

    def take(self, stands):
        token = self.now()
        if not stands:
            raise CannotStand(token.place)
        self.at += 1
        return token.word

    def take_written(self, word):
        return self.take(self.now().word == word)

    def take_new_name(self, names):
        token = self.now()
        return self.take(token.kind == NAME and token.word not in names)

    def take_known_name(self, names):
        token = self.now()
        return self.take(token.kind == NAME and token.word in names)

    def take_prime(self):
        token = self.now()
        return int(self.take(token.kind == NUMBER and is_field(int(token.word))))

    def take_asked(self):
        token = self.now()
        return int(self.take(token.kind == NUMBER and int(token.word) >= 1))


def is_field(number):
    if number < 2 or number > GREATEST_PRIME:
        return False
    return all([number % factor != 0 for factor in range(2, number)])
