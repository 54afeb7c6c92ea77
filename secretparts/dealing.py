"""A secret dealt by numbers of chance."""

from secretparts.curves import value_at
from secretparts.formulas import all_chances
from secretparts.refusals import WrongNumbers


def parts_dealt(book, formula, secret, chance):
    if secret < 0 or secret >= book.prime:
        raise WrongNumbers()
    keep_numbers(book, chance, all_chances(book)[formula])
    return dealt(book, formula, secret, chance)


def keep_numbers(book, numbers, count):
    if len(numbers) != count or any([number >= book.prime for number in numbers]):
        raise WrongNumbers()


# What waits is taken from its end: so the first within a node is dealt, with all
# that is within it, ahead of the second.
def dealt(book, formula, secret, chance):
    parts = []
    taken = 0
    formulas = [formula]
    secrets = [secret]
    while len(formulas) > 0:
        now = formulas.pop()
        own = secrets.pop()
        if book.is_person(now):
            parts.append(own)
        else:
            node = book.node_of(now)
            numbers = [own] + chance[taken:taken + node.asked - 1]
            taken += node.asked - 1
            formulas.extend(node.within[::-1])
            secrets.extend([value_at(numbers, x, book.prime) for x in range(len(node.within), 0, -1)])
    return parts
