"""Literals: concepts that hold or fail, as bits of integers.

Each concept of a list has two bits: the even one says that it holds, the odd one behind it that it fails. An integer
is a set of literals. The literals of several things stand one behind the other in one integer, `width` bits for each.
"""


class Basis:
    """The concepts of a list, which has all atoms that occur, and the literals about them of a number of things."""

    def __init__(self, concepts, things):
        self.concepts = concepts
        self.width = 2 * len(concepts)
        self.evens = ((1 << self.width * things) - 1) // 3

    def literal(self, concept, holds):
        """Return the literal of the first thing that says that a concept holds, or else that it fails."""
        while concept[0] == "not":
            concept = concept[1]
            holds = not holds
        place = 2 * self.concepts.index(concept)
        return 1 << place if holds else 2 << place

    def opposite(self, literals):
        """Return the opposite of each literal of a set."""
        return (literals & self.evens) << 1 | literals >> 1 & self.evens

    def decided(self, literals):
        """Return the even bits of the concepts of which a set says that they hold or that they fail."""
        return (literals | literals >> 1) & self.evens

    def row_of(self, literal):
        """Return the pair (thing, concept) of a literal."""
        bit = literal.bit_length() - 1
        thing = bit // self.width
        place = bit - thing * self.width
        concept = self.concepts[place // 2]
        return thing, (concept if place & 1 == 0 else ("not", concept))

    def rows_of(self, literals):
        """Return the pairs (thing, concept) of a set of literals, a list."""
        found = []
        while literals:
            found.append(self.row_of(lowest(literals)))
            literals = literals & (literals - 1)
        return found

    def terms(self, concept, holds):
        """Return the least sets of literals of atoms by each of which a concept is certain to hold, or else to fail."""
        kind = concept[0]
        if kind == "any":
            return [0] if holds else []
        if kind == "not":
            return self.terms(concept[1], not holds)
        if kind == "and":
            first = self.terms(concept[1], holds)
            second = self.terms(concept[2], holds)
            return self.joined(first, second) if holds else _least(first + second)
        return [self.literal(concept, holds)]

    def joined(self, first, second):
        """Return the least unions of a set of one list with a set of another one, without opposite literals."""
        unions = [one | other for one in first for other in second]
        return _least([union for union in unions if union & self.opposite(union) == 0])


def lowest(literals):
    """Return the lowest literal of a set that is not empty."""
    return literals & -literals


def _least(terms):
    """Return the sets of a list that have no other one of it in them, each once."""
    found = []
    for term in terms:
        if all([other & ~term for other in found]):
            found = [other for other in found if term & ~other]
            found.append(term)
    return found
