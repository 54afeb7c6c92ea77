"""The text's bytes taken apart into tokens."""

LETTERS = "abcdefghijklmnopqrstuvwxyz"
DIGITS = "0123456789"
WORD_SIGNS = "abcdefghijklmnopqrstuvwxyz0123456789_"
OTHER_SIGNS = "(),;=&|#\n"
BLANK_BYTES = (9, 13, 32)
KEPT_WORDS = ("field", "who", "let", "of")
LONGEST_WORD = 15
LONGEST_NUMBER = 5

NAME = "name"
NUMBER = "number"
OTHER = "other"
END = "end"


class Token:
    def __init__(self, kind, word, place):
        self.kind = kind
        self.word = word
        self.place = place


def tokens_of(text):
    row = row_of(text)
    tokens = []
    place = 0
    while place < len(row):
        end = run_end(row, place)
        if row[place] not in " \n#":
            word = row[place:end]
            tokens.append(Token(kind_of(word), word, place))
        place = end
    tokens.append(Token(END, "", len(row)))
    return tokens


# One sign stands for each byte, so that a place in the row is a place in the text.
def row_of(text):
    signs = dict([(ord(sign), sign) for sign in WORD_SIGNS + OTHER_SIGNS])
    for byte in BLANK_BYTES:
        signs[byte] = " "
    return "".join([signs.get(byte, "?") for byte in text])


def run_end(row, place):
    first = row[place]
    if first == "#":
        end = row.find("\n", place)
        return end if end >= 0 else len(row)
    if first in LETTERS:
        return end_of_signs(row, place, WORD_SIGNS)
    if first in DIGITS:
        return end_of_signs(row, place, DIGITS)
    return place + 1


def end_of_signs(row, place, signs):
    end = place
    while end < len(row) and row[end] in signs:
        end += 1
    return end


# What is too long, or no sign of the text, is of the kind OTHER too: it is like
# no kept word and no sign, so it can stand nowhere.
def kind_of(word):
    if word[0] in LETTERS and len(word) <= LONGEST_WORD and word not in KEPT_WORDS:
        return NAME
    if word[0] in DIGITS and len(word) <= LONGEST_NUMBER:
        return NUMBER
    return OTHER
