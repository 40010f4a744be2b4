"""The plain search through types and families, as points 31 to 33 tell it, and small ontologies for it."""

import random

from ontoworks.atoms import above, atoms, can_have, value

ANY = ("any",)
NONE = ("not", ("any",))
A, B, C, D = [("name", number) for number in range(4)]
R, S, T = [(number, False) for number in range(3)]
R_BACK, S_BACK, T_BACK = [(number, True) for number in range(3)]
THING = ("thing",)
FAMILY = ("family",)


def neg(concept):
    return ("not", concept)


def both(*concepts):
    """Return `and` of two or more concepts, from the left."""
    found = concepts[0]
    for concept in concepts[1:]:
        found = ("and", found, concept)
    return found


def either(first, second):
    return neg(("and", neg(first), neg(second)))


def some(role, concept):
    return ("some", role, concept)


def every(role, concept):
    return neg(("some", role, neg(concept)))


def below(lower, upper):
    """Return an axiom with the single part `below`."""
    return (("below", lower, upper),)


def subsets(count):
    """Return all sets of the numbers below a count."""
    return [tuple(number for number in range(count) if bits >> number & 1) for bits in range(1 << count)]


def parts_of(ontology, members, kind):
    """Return the parts of a kind of the axioms of a set."""
    return [part for member in members for part in ontology[0][member] if part[0] == kind]


class Plain:
    """The types over the atoms of an ontology and some questions that survive for one set of axioms."""

    def __init__(self, ontology, members, questions):
        self.ontology = ontology
        self.members = members
        self.atoms = atoms(ontology, questions)
        self.known = {}
        lows = parts_of(ontology, members, "below")
        self.types = [held for held in subsets(len(self.atoms))
                      if all(self.value(held, part[2]) or not self.value(held, part[1]) for part in lows)]
        while True:
            kept = [held for held in self.types if self.finds(held)]
            if len(kept) == len(self.types):
                break
            self.types = kept

    def value(self, held, concept):
        return value(self.atoms, held, concept)

    def can_have(self, role, first, second):
        key = (role, first, second)
        if key not in self.known:
            self.known[key] = can_have(self.ontology, self.members, self.atoms, role, first, second)
        return self.known[key]

    def finds(self, held):
        """Tell whether a type finds what it needs."""
        return all(any(self.value(other, self.atoms[place][2]) and self.can_have(self.atoms[place][1], held, other)
                       for other in self.types)
                   for place in held if self.atoms[place][0] == "some")

    def families(self, chosen=()):
        """Yield all families that begin with some types, each a tuple of types."""
        count = self.ontology[1]
        if len(chosen) == max(count, 1):
            yield chosen
            return
        one = len(chosen)
        for held in self.types:
            more = chosen + (held,)
            facts = [part for part in parts_of(self.ontology, self.members, "is") if part[1] == one]
            links = [part for part in parts_of(self.ontology, self.members, "has") if max(part[1], part[3]) == one]
            if (all(self.value(held, part[2]) for part in facts)
                    and all(self.can_have((part[2], False), more[part[1]], more[part[3]]) for part in links)):
                yield from self.families(more)

    def is_said(self, first, role, second):
        """Tell whether it is said that an individual has another one behind a role."""
        for _, one, number, other in parts_of(self.ontology, self.members, "has"):
            uppers = above(self.ontology, self.members, (number, False))
            if (one, other) == (first, second) and role in uppers:
                return True
            if (other, one) == (first, second) and (role[0], not role[1]) in uppers:
                return True
        return False

    def follows(self, question):
        kind = question[0]
        if kind == "is":
            return all(self.value(family[question[1]], question[2]) for family in self.families())
        if next(self.families(), None) is None:
            return True
        if kind == "never":
            return False
        if kind == "below":
            return not any(self.value(held, question[1]) and not self.value(held, question[2]) for held in self.types)
        return self.is_said(question[1], (question[2], False), question[3])


def follows(ontology, members, question):
    """Tell whether a question follows from a set of axioms."""
    return Plain(ontology, members, (question,)).follows(question)


class Maker:
    """Makes small ontologies and questions, the same ones from the same seed."""

    def __init__(self, seed, individuals=None):
        self.random = random.Random(seed)
        self.concepts = self.random.randint(1, 3)
        self.roles = self.random.randint(1, 2)
        self.individuals = self.random.choice((0, 0, 1, 2, 3)) if individuals is None else individuals
        self.depth = self.random.randint(1, 3)

    def role(self):
        return (self.random.randrange(self.roles), self.random.random() < 0.4)

    def concept(self, depth):
        kind = self.random.random()
        if depth == 0 or kind < 0.3:
            return ("name", self.random.randrange(self.concepts)) if self.random.random() < 0.93 else ANY
        if kind < 0.5:
            return neg(self.concept(depth - 1))
        if kind < 0.7:
            return ("and", self.concept(depth - 1), self.concept(depth - 1))
        return some(self.role(), self.concept(depth - 1))

    def fact(self):
        """Return a part `is` or `has`."""
        one = self.random.randrange(self.individuals)
        if self.random.random() < 0.5:
            return ("is", one, self.concept(self.depth))
        return ("has", one, self.random.randrange(self.roles), self.random.randrange(self.individuals))

    def part(self):
        kind = self.random.random()
        if self.individuals and kind < 0.35:
            return self.fact()
        if kind < 0.45:
            return ("under", self.role(), self.role())
        return ("below", self.concept(self.depth), self.concept(self.depth))

    def question(self):
        kind = self.random.random()
        if kind < 0.15:
            return ("never",)
        if self.individuals and kind < 0.6:
            return self.fact()
        return ("below", self.concept(2), self.concept(2))

    def ontology(self, axioms):
        return (tuple(tuple(self.part() for _ in range(self.random.choice((1, 1, 2)))) for _ in range(axioms)),
                self.individuals)

    def pair(self, axioms):
        """Return an ontology and a question that a plain search can manage."""
        while True:
            ontology, question = self.ontology(axioms), self.question()
            if len(atoms(ontology, (question,))) <= (6 if self.individuals < 2 else 4):
                return ontology, question
