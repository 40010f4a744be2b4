"""What follows from one set of axioms: types that survive, families, and the lines that say why there are none.

Things are looked for as states, sets of literals, in place of whole types: what a state does not decide does not matter
(points 31 to 33). A graph is a pair (states, links) in which each state has what it needs: the individuals come first,
and a link is a triple (from, role, to) of places of states and a role between them.
"""

from ontoworks.reasoner import moved
from ontoworks.roles import inverse, ways_up
from ontoworks.solving import Search


class Setting:
    """A set of axioms, about which questions are asked."""

    def __init__(self, reasoner, places):
        self.reasoner = reasoner
        self.places = places
        self.individuals = reasoner.ontology[1]
        self.width = reasoner.basis.width
        self.uppers = {}
        self.rules = {}
        label = label_of(places)
        self.clauses = [clause for clause in reasoner.clauses if clause[3] & ~label == 0]
        # The same clauses, about what a thing has behind a role.
        self.behind = [moved(clause, 0, 1) for clause in self.clauses]
        self.demands = [(need.holds, self._demand(need)) for need in reasoner.needs]
        self.states = []

    def ask(self, question):
        """Return the pair (proof, graph): why a question follows and None, or None and a graph in which it fails.

        A proof is a pair (label, how), where `how` is a derivation `said` or the number of a line.
        """
        kind = question[0]
        if kind == "is":
            return self._families([(question[1], question[2])], [])
        if kind == "below":
            proof, graph = self._things([(question[1], True), (question[2], False)])
            if proof is not None or self.individuals == 0:
                return proof, graph
            return self._families([], graph[0][:1])
        proof = self._said(question) if kind == "has" else None
        return (proof, None) if proof is not None else self._families([], [])

    def survives(self, held):
        """Tell whether the type with the atoms at some places survives."""
        proof, _ = self._things([(atom, place in held) for place, atom in enumerate(self.reasoner.atoms)])
        return proof is None

    def ways_of(self, role):
        """Return the roles that a role is under: a list of triples (role, steps, label)."""
        if role not in self.uppers:
            found = ways_up(self.reasoner.ontology, self.places, role)
            self.uppers[role] = [(upper, steps, label_of([step[0] for step in steps])) for upper, steps in found]
        return self.uppers[role]

    def parts_of(self, kind):
        """Return a triple (axiom, number, part) for each part of a kind that the axioms of the set have, a list."""
        found = []
        for place in self.places:
            for number, part in enumerate(self.reasoner.ontology[0][place]):
                if part[0] == kind:
                    found.append((place, number, part))
        return found

    def _demand(self, need):
        """Return the even bits of what a state has to decide, so that what it needs can be looked for behind it."""
        # If an atom with the inverse role fails there, what it looks for has to be certain to fail here.
        concepts = 0
        for upper, _, _ in self.ways_of(need.role):
            for other in self.reasoner.needs:
                if inverse(other.role) == upper:
                    for term in other.cases:
                        concepts = concepts | self.reasoner.basis.decided(term)
        return concepts

    def _said(self, question):
        """Return the proof that a question `has` is said by an axiom, or None."""
        _, first, number, second = question
        for place, part, (_, one, role, other) in self.parts_of("has"):
            for upper, steps, label in self.ways_of((role, False)):
                pair = (other, one) if upper[1] else (one, other)
                if upper[0] == number and pair == (first, second):
                    return label | 1 << place, ("said", place, part, upper[1], steps)
        return None

    def _things(self, goals):
        """Look for a thing of which the concepts of some pairs (concept, holds) hold or fail; return as `ask` does."""
        state = 0
        clauses = []
        for concept, holds in goals:
            state = state | self.reasoner.basis.literal(concept, holds)
            clauses.extend(self.reasoner.meaning(concept, holds))
        clash = self.reasoner.clash(state)
        if clash is not None:
            return self._proof(clash), None
        while True:
            search = Search(self.reasoner.proofs, ("thing",), self.demands)
            line = search.run(state, clauses + self.clauses)
            if line is not None:
                return self._proof(line), None
            graph = self._graph([], [self.reasoner.without_goals(search.found)])
            if graph is not None:
                return None, graph

    def _families(self, goals, roots):
        """Look for a family in which the concepts of some pairs (individual, concept) fail; return as `ask` does.

        The states `roots` stand in the graph behind the individuals.
        """
        if self.individuals == 0:
            return self._things([])
        state = 0
        clauses = self._clauses_of_facts()
        for one, concept in goals:
            state = state | self.reasoner.basis.literal(concept, False) << one * self.width
            for clause in self.reasoner.meaning(concept, False):
                clauses.append(moved(clause, one * self.width, one))
        while True:
            search = Search(self.reasoner.proofs, ("family",), self._demands_of_all())
            line = search.run(state, clauses + self._clauses_of_all())
            if line is not None:
                return self._proof(line), None
            ones = [self.reasoner.without_goals(search.found >> shift) for shift in self._shifts()]
            graph = self._graph(ones, roots)
            if graph is not None:
                return None, graph

    def _proof(self, line):
        """Return the proof that is a line."""
        return self.reasoner.proofs.labels[line], line

    def _shifts(self):
        """Return where the literals of each individual begin, a list."""
        return [one * self.width for one in range(self.individuals)]

    def _demands_of_all(self):
        """Return what the state of each individual has to decide, a list."""
        return [(literal << shift, concepts << shift) for shift in self._shifts() for literal, concepts in self.demands]

    def _clauses_of_all(self):
        """Return the clauses about each individual that are about all things, a list."""
        return [moved(clause, shift, one) for one, shift in enumerate(self._shifts()) for clause in self.clauses]

    def _clauses_of_facts(self):
        """Return the clauses that the parts `is` and `has` say of the individuals, a list."""
        basis = self.reasoner.basis
        found = []
        for place, number, (_, one, concept) in self.parts_of("is"):
            for term in basis.terms(concept, False):
                reason = ("member", place, number)
                found.append(self.reasoner.clause(term << one * self.width, True, 1 << place, reason))
        for place, number, (_, one, role, other) in self.parts_of("has"):
            for first, second, steps, backwards, concept, label in self._crossings((role, False)):
                literals = first << one * self.width | second << other * self.width
                reason = ("link", place, number, steps, backwards, concept)
                if literals & basis.opposite(literals) == 0:
                    found.append(self.reasoner.clause(literals, True, label | 1 << place, reason))
        return found

    def _crossings(self, role):
        """Return what a thing and one behind a role cannot have together, a list of tuples.

        They have the literals of the first thing and of the second one, and then what the rule of `role` has: steps,
        whether it is meant backwards, and the concept; and the label.
        """
        found = []
        for upper, steps, label in self.ways_of(role):
            for need in self.reasoner.needs:
                if need.role == upper:
                    found.extend([(need.fails, term, steps, False, need.concept, label) for term in need.cases])
                if inverse(need.role) == upper:
                    found.extend([(term, need.fails, steps, True, need.concept, label) for term in need.cases])
        return found

    def _rules_of(self, role):
        """Return pairs (literals, clause), a list: if a thing has the literals, the clause is about what is behind."""
        if role not in self.rules:
            self.rules[role] = []
            for first, second, steps, backwards, concept, label in self._crossings(role):
                reason = ("role", steps, backwards, concept)
                clause = self.reasoner.clause(first << self.width | second, True, label, reason)
                self.rules[role].append((first, clause))
        return self.rules[role]

    def _graph(self, ones, roots):
        """Return the graph of the states of the individuals and of some other things, or None once a line was found."""
        states = ones + roots
        numbers = {}
        for root in roots:
            numbers[root] = len(ones) + roots.index(root)
            if root not in self.states:
                self.states.append(root)
        links = []
        at = 0
        while at < len(states):
            for need in self.reasoner.needs:
                if states[at] & need.holds:
                    found = self._served(states[at], need)
                    if found is None:
                        return None
                    if found not in numbers:
                        numbers[found] = len(states)
                        states.append(found)
                    links.append((at, need.role, numbers[found]))
            at += 1
        return states, links

    def _served(self, state, need):
        """Return a state that has what a state needs, or None once a line was found that says why there is none."""
        rules = [clause for first, clause in self._rules_of(need.role) if first & ~state == 0]
        for other in self.states:
            if _serves(other, need, rules):
                return other
        search = Search(self.reasoner.proofs, ("pair", need.role), self.demands)
        line = search.run(need.goal | state << self.width, need.clauses + rules + self.behind)
        if line is not None:
            self._learn(need, line)
            return None
        found = self.reasoner.without_goals(search.found)
        self.states.append(found)
        return found

    def _learn(self, need, line):
        """Learn from a line about a pair that what a thing has must not be there together with what it needs."""
        proofs = self.reasoner.proofs
        literals = proofs.literals[line] >> self.width | need.holds
        clause = self.reasoner.learn(literals, proofs.labels[line], ("need", 0, need.role, need.concept, line))
        self.clauses.append(clause)
        self.behind.append(moved(clause, 0, 1))
        self.states = [state for state in self.states if literals & ~state]


def label_of(places):
    """Return the label of some axioms, each of which may be there several times."""
    label = 0
    for place in places:
        label = label | 1 << place
    return label


def _serves(state, need, rules):
    """Tell whether a state has what is needed and keeps all rules about what is behind the role."""
    if not any([term & ~state == 0 for term in need.cases]):
        return False
    return all([state & clause[1] for clause in rules])
