"""What is reckoned of formulas: who may, their places, and the numbers of chance they take."""


# One number for each formula of the book, 1 where these people may, else 0.
def all_met(book, who):
    met = [(who >> person) & 1 for person in range(len(book.people))]
    for node in book.nodes:
        enough = sum([met[formula] for formula in node.within]) >= node.asked
        met.append(1 if enough else 0)
    return met


def all_places(book):
    places = [1 for person in book.people]
    for node in book.nodes:
        places.append(sum([places[formula] for formula in node.within]))
    return places


def all_chances(book):
    chances = [0 for person in book.people]
    for node in book.nodes:
        chances.append(node.asked - 1 + sum([chances[formula] for formula in node.within]))
    return chances


# The formula and all within it, each behind what is within it, a let that is
# named twice also twice: at each of its places it has parts of its own.
def steps_of(book, formula):
    steps = []
    waiting = [formula]
    while len(waiting) > 0:
        step = waiting.pop()
        steps.append(step)
        if not book.is_person(step):
            waiting.extend(book.node_of(step).within)
    steps.reverse()
    return steps


# The person of each place.
def owners_of(book, formula):
    return [step for step in steps_of(book, formula) if book.is_person(step)]
