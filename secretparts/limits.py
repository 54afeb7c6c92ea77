"""The limits of a text that is right."""

from secretparts.formulas import all_places
from secretparts.refusals import OverLimit

MOST_PEOPLE = 10
MOST_LETS = 16
MOST_PLACES = 24


def keep_limits(book):
    if len(book.people) > MOST_PEOPLE or len(book.lets) > MOST_LETS:
        raise OverLimit()
    if any([len(node.within) >= book.prime for node in book.nodes]):
        raise OverLimit()
    places = all_places(book)
    if any([places[formula] > MOST_PLACES for formula in book.lets]):
        raise OverLimit()
