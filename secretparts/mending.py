"""Wrong parts found: the fewest people who have to be left out for a secret to agree with the others' parts."""

from secretparts.agreeing import MANY_SECRETS, NO_SECRET, found_of
from secretparts.dealing import keep_numbers
from secretparts.formulas import owners_of


# The last try leaves everybody out, and then every secret agrees: so a try ends it.
def mended(book, formula, parts):
    owners = owners_of(book, formula)
    keep_numbers(book, parts, len(owners))
    tries = fewest_first(len(book.people))
    found = NO_SECRET
    tried = 0
    while found == NO_SECRET:
        found = found_of(book, formula, held_without(tries[tried], owners, parts))
        tried += 1
    return [found, tries[tried - 1]]


# All numbers of people; where as many are told, the least number comes first.
def fewest_first(people):
    return sorted(range(1 << people), key=lambda who: (how_many(who, people), who))


def how_many(who, people):
    return sum([(who >> person) & 1 for person in range(people)])


# One number for each place: the part, or, where its person is left out, that every one may be.
def held_without(left_out, owners, parts):
    return [MANY_SECRETS if (left_out >> owner) & 1 == 1 else part for owner, part in zip(owners, parts)]
