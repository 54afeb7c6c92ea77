"""What a text says: the field, the people, the lets and their formulas."""


class Node:
    def __init__(self, asked, within):
        self.asked = asked
        self.within = within


# A formula is told by a number: first come the people, then the nodes. A node
# comes behind all that is within it, so one walk over the nodes in their order
# reckons every formula, however deep; and a let that is named twice is kept once.
class Book:
    def __init__(self, prime):
        self.prime = prime
        self.people = []
        self.nodes = []
        self.lets = []
        self.names = {}

    def add_person(self, name):
        self.names[name] = len(self.people)
        self.people.append(name)

    def add_node(self, asked, within):
        self.nodes.append(Node(asked, within))
        return len(self.people) + len(self.nodes) - 1

    def add_let(self, name, formula):
        self.names[name] = formula
        self.lets.append(formula)

    def is_person(self, formula):
        return formula < len(self.people)

    def node_of(self, formula):
        return self.nodes[formula - len(self.people)]
