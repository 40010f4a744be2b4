"""Versions of an ontology: what it is between two changes (points 64 to 71). Nothing in a version ever changes."""

from ontoworks.atoms import atoms
from ontoworks.diagrams import holds, renumbered
from ontoworks.errors import NoSuchAxiom, TooLarge
from ontoworks.reasons import all_reasons
from ontoworks.search import condition

MOST_ATOMS = 12


class Axiom:
    """An axiom in a version: its identity is a number that it keeps through all changes."""

    def __init__(self, identity, name, statement, core, taken):
        self.identity = identity
        self.name = name
        self.statement = statement
        self.core = core
        self.taken = taken


class Watched:
    """A question that is watched in a version: its canonical text, its tree, and its condition there."""

    def __init__(self, text, tree, says):
        self.text = text
        self.tree = tree
        self.says = says


class Version:
    """The axioms and the questions that are watched, each in their order."""

    def __init__(self, individuals, rows, questions):
        self.individuals = individuals
        self.rows = rows
        self.questions = questions

    def whole(self):
        """Return the ontology of all axioms, taken or not."""
        return tuple([row.core for row in self.rows]), self.individuals

    def written(self):
        """Return the pairs (name, written statement) of all axioms, a tuple."""
        return tuple([(row.name, row.statement) for row in self.rows])

    def taken_places(self):
        """Return the places of the axioms that are taken, a set."""
        return tuple([place for place, row in enumerate(self.rows) if row.taken])

    def place_of(self, name):
        """Return the place of the axiom with a name; raise NoSuchAxiom if there is none."""
        for place, row in enumerate(self.rows):
            if row.name == name:
                return place
        raise NoSuchAxiom(name)

    def place_of_question(self, tree):
        """Return the place of a question among those that are watched, or None if it is not watched."""
        for place, question in enumerate(self.questions):
            if question.tree == tree:
                return place
        return None

    def says_of(self, tree):
        """Return the condition of a question."""
        place = self.place_of_question(tree)
        return condition(self.whole(), tree) if place is None else self.questions[place].says

    def check_size(self):
        """Raise TooLarge if the axioms have too many atoms."""
        refuse_atoms(self.whole(), (), MOST_ATOMS)


def refuse_atoms(ontology, questions, most):
    """Raise TooLarge if an ontology and some questions have more atoms than they may have."""
    count = len(atoms(ontology, questions))
    if count > most:
        raise TooLarge(count)


def news(earlier, later):
    """Return the news about the questions that are watched in two versions, a tuple."""
    identities = sorted({row.identity for row in earlier.rows + later.rows})
    found = []
    for question in later.questions:
        place = earlier.place_of_question(question.tree)
        if place is not None:
            old = earlier.questions[place].says
            other = _by_identity(earlier, old, identities) != _by_identity(later, question.says, identities)
            before = holds(old, earlier.taken_places())
            found.append((question.text, before, holds(question.says, later.taken_places()), other))
    return tuple(found)


def lost(first, second, tree):
    """Return the sets of axioms, as tuples of names, that are lost for a question by the second version."""
    places = {row.identity: place for place, row in enumerate(second.rows)}
    says = second.says_of(tree)
    found = []
    for reason in all_reasons(first.says_of(tree)):
        kept = [places[first.rows[axiom].identity] for axiom in reason if first.rows[axiom].identity in places]
        if not holds(says, tuple(sorted(kept))):
            found.append(tuple([first.rows[axiom].name for axiom in reason]))
    return tuple(found)


def _by_identity(version, says, identities):
    """Return a condition of a version with the places that its axioms have in a list of identities."""
    return renumbered(says, tuple([identities.index(row.identity) for row in version.rows]))
