"""The class Ontology: an ontology that can be changed and asked, with names in place of numbers (points 64 to 74)."""

from ontoworks.atoms import atoms
from ontoworks.changing import added, changed, removed, switched, unwatching, watching
from ontoworks.classes import picture, relation
from ontoworks.countermodels import counter_model
from ontoworks.derivations import check, named_axioms
from ontoworks.diagrams import asks, holds, ways
from ontoworks.errors import NoSuchConcept, NoSuchVersion, NothingToTakeBack, WrongCount
from ontoworks.explaining import explanation
from ontoworks.models import answers, breaks, members, smaller
from ontoworks.printing import print_question, print_statement
from ontoworks.reasons import all_reasons, blame, chance, cheapest_repair, reasons, repairs, right, shares
from ontoworks.resolving import axiom_of, concept_of, core_question, opened, parts, question_of, statement_of
from ontoworks.search import follow
from ontoworks.version import Axiom, Version, lost, news, refuse_atoms

MOST_ATOMS_OF_QUESTION = 8
MOST_BACK = 10


class Ontology:
    """An ontology, its versions, and the questions that are watched.

    `now` is the version of now; `earlier` are those to which changes can be taken back, the oldest one first.
    """

    def __init__(self, source):
        self.declared, written = opened(source)
        rows = []
        for name, statement in written:
            rows.append(Axiom(len(rows), name, statement, parts(self.declared, statement), True))
        self.now = Version(len(self.declared[2]), tuple(rows), ())
        self.now.check_size()
        self.earlier = ()
        # The identity of the next axiom; no axiom gets one that another one had before.
        self.identities = len(rows)

    def add(self, text):
        """Add the axiom of the text of an item, and take it; return the pair (ran, news)."""
        name, statement = axiom_of(self.declared, self.now.written(), text)
        axiom = Axiom(self.identities, name, statement, parts(self.declared, statement), True)
        version, ran = added(self.now, axiom)
        self.identities += 1
        return self._follow(version, ran)

    def remove(self, name):
        """Remove an axiom; return the pair (ran, news)."""
        version, ran = removed(self.now, self.now.place_of(name))
        return self._follow(version, ran)

    def change(self, name, statement):
        """Give an axiom another statement, a text; return the pair (ran, news)."""
        place = self.now.place_of(name)
        written = statement_of(self.declared, self.now.written(), statement)
        version, ran = changed(self.now, place, written, parts(self.declared, written))
        return self._follow(version, ran)

    def take(self, name, taken):
        """Take an axiom from now on, or take it no more; return the pair (ran, news)."""
        version, ran = switched(self.now, self.now.place_of(name), taken)
        return self._follow(version, ran)

    def watch(self, question):
        """Watch a question; return the pair (ran, news)."""
        tree = self._tree(question)
        text = print_question(question_of(self.declared, self.now.written(), question))
        version, ran = watching(self.now, text, tree)
        return self._follow(version, ran)

    def unwatch(self, question):
        """Watch a question no more; return the pair (ran, news)."""
        version, ran = unwatching(self.now, self._tree(question))
        return self._follow(version, ran)

    def back(self):
        """Take the last change back; return the news."""
        if self.earlier == ():
            raise NothingToTakeBack()
        version = self.earlier[-1]
        told = news(self.now, version)
        self.now = version
        self.earlier = self.earlier[:-1]
        return told

    def names(self):
        """Return the triple of the tuples of the concepts, the roles and the individuals."""
        return self.declared

    def axioms(self):
        """Return a triple (name, canonical text of the statement, whether it is taken) for each axiom, a tuple."""
        return tuple([(row.name, print_statement(row.statement), row.taken) for row in self.now.rows])

    def watched(self):
        """Return a pair (canonical text, whether it follows) for each question that is watched, a tuple."""
        taken = self.now.taken_places()
        return tuple([(question.text, holds(question.says, taken)) for question in self.now.questions])

    def versions(self):
        """Return how many changes can be taken back."""
        return len(self.earlier)

    def follows(self, question):
        """Tell whether a question follows."""
        tree = self._tree(question)
        return follow(self.now.whole(), self.now.taken_places(), (tree,))[0]

    def condition(self, question):
        """Return the condition of a question, with names."""
        return self._named_condition(self._says(question))

    def ways(self, question):
        """Return from how many sets of axioms, taken or not, a question follows."""
        return ways(self._says(question), len(self.now.rows))

    def matters(self, question):
        """Return the axioms on which the condition of a question depends, a tuple of names."""
        return self._named(asks(self._says(question)))

    def reasons(self, question):
        """Return the reasons now of a question, a tuple of tuples of names."""
        return self._all_named(reasons(self._says(question), self.now.taken_places()))

    def all_reasons(self, question):
        """Return all least reasons of a question, a tuple of tuples of names."""
        return self._all_named(all_reasons(self._says(question)))

    def repairs(self, question):
        """Return the least repairs of a question, a tuple of tuples of names."""
        return self._all_named(repairs(self._says(question), self.now.taken_places()))

    def blame(self, question):
        """Return a pair (name, names of the others) for each axiom that is to blame, a tuple."""
        found = blame(self._says(question), self.now.taken_places())
        return tuple([(self._name(axiom), self._named(others)) for axiom, others in found])

    def shares(self, question):
        """Return a pair (name, share) for each concerned axiom, a tuple."""
        found = shares(self._says(question), self.now.taken_places())
        return tuple([(self._name(axiom), share) for axiom, share in found])

    def cheapest_repair(self, question, costs):
        """Return the pair (cost, names) of the cheapest repair, or None if there is none."""
        tree = self._tree(question)
        self._check_count(costs)
        found = cheapest_repair(self.now.says_of(tree), self.now.taken_places(), costs)
        return None if found is None else (found[0], self._named(found[1]))

    def chance(self, question, chances):
        """Return the chance of the condition of a question, a fraction."""
        tree = self._tree(question)
        self._check_count(chances)
        return chance(self.now.says_of(tree), chances)

    def right(self, question, chances):
        """Return the chance of each axiom if the condition of a question says no, a tuple, or None if it never does."""
        tree = self._tree(question)
        self._check_count(chances)
        return right(self.now.says_of(tree), chances)

    def compare(self, version, question):
        """Return the pair (lost, gained) of the sets that the version of now lost and gained against another one."""
        tree = self._tree(question)
        if version > len(self.earlier):
            raise NoSuchVersion()
        other = (self.earlier + (self.now,))[-1 - version]
        return lost(other, self.now, tree), lost(self.now, other, tree)

    def picture(self, taken=None):
        """Return the picture for the axioms with some names, or for those that are taken."""
        places = self.now.taken_places()
        if taken is not None:
            places = tuple(sorted({self.now.place_of(name) for name in taken}))
        concepts = self.declared[0]
        possible, everything, impossible, classes = picture(self.now.whole(), places, len(concepts))
        named = tuple([(_picked(concepts, same), higher) for same, higher in classes])
        return possible, _picked(concepts, everything), _picked(concepts, impossible), named

    def relation(self, concept, other):
        """Return the relation of two concepts, a tuple of four conditions."""
        concepts = self.declared[0]
        for name in (concept, other):
            if name not in concepts:
                raise NoSuchConcept(name)
        first = concepts.index(concept)
        found = relation(self.now.whole(), len(concepts), first, concepts.index(other))
        return tuple([self._named_condition(says) for says in found])

    def counter_model(self, question):
        """Return a model of the axioms that are taken in which a question does not hold, or None if it follows."""
        return counter_model(self.now.whole(), self.now.taken_places(), self._tree(question))

    def check(self, question, derivation):
        """Return None if a derivation is accepted, otherwise its fault."""
        return check(self.now.whole(), self.now.taken_places(), self._tree(question), derivation)

    def explain(self, question):
        """Return a derivation of a question, or a model in which it does not hold, behind the word for it."""
        return explanation(self.now.whole(), self.now.taken_places(), self._tree(question))

    def breaks(self, model):
        """Return a triple (name, part, things) for each axiom that is taken and that a model breaks, a tuple."""
        found = breaks(model, self.now.whole(), self.now.taken_places())
        return tuple([(self._name(axiom), part, things) for axiom, part, things in found])

    def answers(self, model, question):
        """Tell whether a question holds in a model."""
        written = question_of(self.declared, self.now.written(), question)
        return answers(model, core_question(self.declared, written))

    def members(self, model, concept):
        """Return the things of a model that belong to a concept, which is a text, a tuple."""
        return members(model, concept_of(self.declared, self.now.written(), concept))

    def smaller(self, model):
        """Return the smaller model for the atoms of all axioms and of the questions that are watched."""
        questions = tuple([question.tree for question in self.now.questions])
        return smaller(model, atoms(self.now.whole(), questions))

    def named_axioms(self, derivation):
        """Return the names of the axioms that a derivation names, a tuple."""
        return self._named([axiom for axiom in named_axioms(derivation) if axiom < len(self.now.rows)])

    def _follow(self, version, ran):
        """Go on to the version behind a change, and return the pair (ran, news)."""
        told = news(self.now, version)
        self.earlier = (self.earlier + (self.now,))[-MOST_BACK:]
        self.now = version
        return ran, told

    def _tree(self, question):
        """Return the tree of the text of a question; raise FaultyText or TooLarge if it cannot be asked."""
        tree = core_question(self.declared, question_of(self.declared, self.now.written(), question))
        refuse_atoms(((), self.now.individuals), (tree,), MOST_ATOMS_OF_QUESTION)
        return tree

    def _says(self, question):
        """Return the condition of the text of a question, with places of axioms."""
        return self.now.says_of(self._tree(question))

    def _check_count(self, numbers):
        """Raise WrongCount if there is not one item for each axiom."""
        if len(numbers) != len(self.now.rows):
            raise WrongCount()

    def _name(self, axiom):
        """Return the name of the axiom at a place."""
        return self.now.rows[axiom].name

    def _named(self, places):
        """Return the names of the axioms at some places, a tuple."""
        return tuple([self._name(place) for place in places])

    def _all_named(self, sets):
        """Return the names of the axioms of some sets, a tuple of tuples."""
        return tuple([self._named(places) for places in sets])

    def _named_condition(self, says):
        """Return a condition with the names of axioms in place of their numbers."""
        nodes, root = says
        return tuple([(self._name(number), without, within) for number, without, within in nodes]), root


def _picked(names, places):
    """Return the names at some places, a tuple."""
    return tuple([names[place] for place in places])
