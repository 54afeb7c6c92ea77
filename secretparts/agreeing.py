"""Which secret agrees with parts.

With the parts that are known of a formula agrees no secret, or one, or every one: never just some of them.
So what is found is one number, the secret or one of the two below 0.
"""

from secretparts.curves import value_through
from secretparts.dealing import keep_numbers
from secretparts.formulas import owners_of, steps_of

NO_SECRET = -4
MANY_SECRETS = -6


def opened(book, formula, who, parts):
    owners = owners_of(book, formula)
    theirs = [owner for owner in owners if (who >> owner) & 1 == 1]
    keep_numbers(book, parts, len(theirs))
    return found_of(book, formula, held_by(who, owners, parts))


# One number for each place: these people's parts; of the others' every one may be.
def held_by(who, owners, parts):
    held = []
    taken = 0
    for owner in owners:
        if (who >> owner) & 1 == 1:
            held.append(parts[taken])
            taken += 1
        else:
            held.append(MANY_SECRETS)
    return held


def found_of(book, formula, held):
    found = []
    taken = 0
    for step in steps_of(book, formula):
        if book.is_person(step):
            found.append(held[taken])
            taken += 1
        else:
            node = book.node_of(step)
            first = len(found) - len(node.within)
            found = found[:first] + [found_of_node(found[first:], node.asked, book.prime)]
    return found[0]


# Each within a node has chance of its own, so what is found of it is all that counts.
# Through fewer points than are asked for there goes a curve from every secret.
def found_of_node(found, asked, prime):
    if NO_SECRET in found:
        return NO_SECRET
    points = [(x, value) for x, value in enumerate(found, start=1) if value != MANY_SECRETS]
    if len(points) < asked:
        return MANY_SECRETS
    first = points[:asked]
    if any([value_through(first, x, prime) != value for x, value in points[asked:]]):
        return NO_SECRET
    return value_through(first, 0, prime)
