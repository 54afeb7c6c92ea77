"""What all tests share: texts as lists of bytes, and the ways to ask the desk."""

from secretparts.desk import allowed, check

LEAST = -2147483648
GREATEST = 2147483647


def bytes_of(text):
    return list(text.encode("latin-1"))


def checked(text):
    return check(bytes_of(text))


def asked(form, who, text):
    return allowed(form, who, bytes_of(text))


def refused_at(place):
    return [-100 - place]


def with_people(count):
    return ", ".join("p%d" % number for number in range(count))


def who_may(text, form, people):
    """All the numbers of people that may, in rising order."""
    return [who for who in range(2 ** people) if asked(form, who, text) == [1]]


class Untouchable(list):
    """A list that tells of every change, even of one that is undone."""

    def refuse(self, *args, **kwargs):
        raise RuntimeError("what was handed in is changed")

    __setitem__ = __delitem__ = __iadd__ = __imul__ = refuse
    append = extend = insert = pop = remove = clear = sort = reverse = refuse
