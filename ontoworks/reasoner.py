"""What is the same for all sets of axioms of an ontology: its literals, its clauses, and the lines that were found.

A line that was found for one set of axioms serves all sets that have the axioms of its label.
"""

from ontoworks.atoms import atoms
from ontoworks.basis import Basis
from ontoworks.proofs import Proofs


class Need:
    """An atom `some`: its literal and the opposite of it, and what it needs behind its role."""

    def __init__(self, reasoner, atom):
        _, self.role, self.concept = atom
        self.holds = reasoner.basis.literal(atom, True)
        self.fails = reasoner.basis.opposite(self.holds)
        self.cases = reasoner.basis.terms(self.concept, True)
        self.goal = reasoner.basis.literal(self.concept, True)
        self.clauses = [moved(clause, 0, 1) for clause in reasoner.meaning(self.concept, True)]


class Reasoner:
    """An ontology, and some questions that will be asked about sets of its axioms."""

    def __init__(self, ontology, questions):
        self.ontology = ontology
        self.atoms = atoms(ontology, questions)
        self.basis = Basis(_concepts(self.atoms, questions), max(2, ontology[1]))
        self.proofs = Proofs(self.basis)
        # What the axioms say comes first, and then what was found.
        self.clauses = self._clauses_of_axioms()
        self.needs = [Need(self, atom) for atom in self.atoms if atom[0] == "some"]

    def clause(self, literals, required, label, reason):
        """Return the clause by which literals cannot hold all together."""
        return literals, self.basis.opposite(literals), required, label, reason

    def meaning(self, concept, holds):
        """Return the clauses that say what the literal of a concept means for a thing, a list."""
        core, holds = _core(concept, holds)
        if core in self.atoms:
            return []
        literal = self.basis.literal(core, holds)
        against = self.basis.terms(core, not holds)
        return [self.clause(literal | term, True, 0, ("clash", 0, core)) for term in against]

    def clash(self, state):
        """Return the line that a thing cannot have a literal together with its opposite, or None if it has no such."""
        both = state & self.basis.opposite(state)
        if both == 0:
            return None
        _, concept = self.basis.row_of(both & self.basis.evens)
        return self.proofs.add(("thing",), state, 0, ("clash", 0, concept))

    def learn(self, literals, label, reason):
        """Add the line that literals of a thing cannot hold all together, and return its clause."""
        line = self.proofs.add(("thing",), literals, label, reason)
        clause = self.clause(literals, False, label, ("line", 0, line))
        self.clauses.append(clause)
        return clause

    def without_goals(self, state):
        """Return the literals of atoms of the first thing of a state."""
        return state & (1 << 2 * len(self.atoms)) - 1

    def _clauses_of_axioms(self):
        """Return the clauses that the parts `below` of all axioms say of a thing, a list."""
        clauses = []
        for place, axiom in enumerate(self.ontology[0]):
            for number, part in enumerate(axiom):
                if part[0] == "below":
                    _, lower, upper = part
                    for term in self.basis.joined(self.basis.terms(lower, True), self.basis.terms(upper, False)):
                        clauses.append(self.clause(term, True, 1 << place, ("axiom", 0, place, number)))
        return clauses


def moved(clause, shift, place):
    """Return a clause about the first thing as one about another thing, which is at some place of its line."""
    literals, opposites, required, label, reason = clause
    return literals << shift, opposites << shift, required, label, (reason[0], place) + reason[2:]


def _core(concept, holds):
    """Return what is left of a concept without `not` in front of it, and whether that holds, too."""
    while concept[0] == "not":
        concept = concept[1]
        holds = not holds
    return concept, holds


def _concepts(all_atoms, questions):
    """Return the concepts that literals are about: atoms first, then what things are looked for to belong to."""
    looked = [atom[2] for atom in all_atoms if atom[0] == "some"]
    for question in questions:
        if question[0] == "below":
            looked.extend(question[1:])
        elif question[0] == "is":
            looked.append(question[2])
    # Names come first, so that a search tries them before atoms that bring other things with them.
    found = [atom for atom in all_atoms if atom[0] == "name"] + [atom for atom in all_atoms if atom[0] == "some"]
    for concept in looked:
        core, _ = _core(concept, True)
        if core not in found:
            found.append(core)
    return found
