"""Which people may open a formula, looked at for all numbers of people at once."""

from secretparts.formulas import all_met


# One number for each number of people, 1 where these may, else 0.
def who_may(book, formula):
    return [all_met(book, who)[formula] for who in range(1 << len(book.people))]


def least_of(book, formula):
    may = who_may(book, formula)
    return [who for who in range(len(may)) if may[who] == 1 and needs_all(may, who, len(book.people))]


# Who may, may with more people too: so if no one of them can be spared, no several can.
def needs_all(may, who, people):
    among = [1 << person for person in range(people) if (who >> person) & 1 == 1]
    return all([may[who - one] == 0 for one in among])


def are_same(book, formula, other):
    return 1 if who_may(book, formula) == who_may(book, other) else 0
