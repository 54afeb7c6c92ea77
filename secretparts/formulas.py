"""What is reckoned of formulas: who may, and how many places they have."""


# One number for each formula of the book, 1 where these people may, else 0.
def all_met(book, who):
    met = [(who >> person) & 1 for person in range(len(book.people))]
    for node in book.nodes:
        enough = sum([met[formula] for formula in node.within]) >= node.asked
        met.append(1 if enough else 0)
    return met


def all_places(book):
    places = [1 for person in book.people]
    for node in book.nodes:
        places.append(sum([places[formula] for formula in node.within]))
    return places
