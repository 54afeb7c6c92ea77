"""A formula told as a text, as it is or the other way round."""

# By the sign of a node: the signs of those within it that stand in brackets.
BRACKETED = {"&": ("&", "|"), "|": ("|",), "": ()}


def bytes_told(book, formula, turned):
    return [ord(sign) for sign in all_told(book, turned)[formula]]


# The text of each formula of the book.
def all_told(book, turned):
    texts = list(book.people)
    signs = ["" for person in book.people]
    for node in book.nodes:
        asked = asked_of(node, turned)
        sign = sign_between(asked, len(node.within))
        inner = [set_apart(texts[formula], signs[formula] in BRACKETED[sign]) for formula in node.within]
        texts.append(joined_by(sign, asked, inner))
        signs.append(sign)
    return texts


def asked_of(node, turned):
    if turned:
        return len(node.within) + 1 - node.asked
    return node.asked


# No sign where it is told as k of (...).
def sign_between(asked, within):
    if within == 1 or (asked > 1 and asked < within):
        return ""
    return "|" if asked == 1 else "&"


def set_apart(text, bracketed):
    return "(" + text + ")" if bracketed else text


def joined_by(sign, asked, inner):
    if sign == "&":
        return " & ".join(inner)
    if sign == "|":
        return " | ".join(inner)
    return str(asked) + " of (" + ", ".join(inner) + ")"
