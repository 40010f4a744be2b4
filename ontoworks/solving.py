"""Looking for things of which some sets of literals do not hold, or for the line that says why there are none.

A clause is a tuple (literals, opposites, required, label, reason). Its literals cannot hold all together; the reason
and the label tell why. If it is required, a state has to have the opposite of one of them, so that it is certain.
A state is a set of literals that hold.
"""

from ontoworks.basis import lowest


class Search:
    """A search for a state of some shape; `found` is the state once there is one."""

    def __init__(self, proofs, shape, demands):
        self.proofs = proofs
        self.shape = shape
        self.demands = demands
        self.found = None

    def run(self, state, clauses):
        """Return None once a state has been found, or the line by which there is none with the literals of a state."""
        state, clauses, trail, broken = self._spread(state, clauses)
        if broken is not None:
            return self._explained(self._line(broken), trail)
        literal = self._choice(state, clauses)
        if literal == 0:
            self.found = state
            return None
        line = self.run(state | literal, clauses)
        if line is not None and self.proofs.literals[line] & literal:
            line = self._other_side(line, literal, state, clauses)
        return None if line is None else self._explained(line, trail)

    def _other_side(self, line, literal, state, clauses):
        """Return what `run` returns once it is known that a literal cannot be added, because of a line."""
        opposite = self.proofs.basis.opposite(literal)
        other = self.run(state | opposite, clauses)
        if other is None or self.proofs.literals[other] & opposite == 0:
            return other
        return self.proofs.resolved(line, other, literal)

    def _spread(self, state, clauses):
        """Return the state with all literals that single clauses bring, the open clauses, the trail, a broken clause.

        The trail is the list of pairs (literal, clause) of what was added; the broken clause is None if there is none.
        """
        trail = []
        while True:
            left = []
            before = state
            for clause in clauses:
                if state & clause[1]:
                    continue
                rest = clause[0] & ~state
                if rest & (rest - 1):
                    left.append(clause)
                elif rest == 0:
                    return state, left, trail, clause
                else:
                    literal = self.proofs.basis.opposite(rest)
                    state = state | literal
                    trail.append((literal, clause))
            if state == before:
                return state, left, trail, None
            clauses = left

    def _choice(self, state, clauses):
        """Return the literal to try next, or 0 if the state has all that is required."""
        basis = self.proofs.basis
        for clause in clauses:
            if clause[2]:
                rest = clause[0] & ~state
                # Rather let a concept fail than hold: what fails seldom brings other things with it.
                return basis.opposite(lowest(rest & basis.evens or rest))
        decided = basis.decided(state)
        for literal, concepts in self.demands:
            if state & literal and concepts & ~decided:
                return lowest(concepts & ~decided) << 1
        return 0

    def _line(self, clause):
        """Return the line that says what a clause says."""
        return self.proofs.add(self.shape, clause[0], clause[3], clause[4])

    def _explained(self, line, trail):
        """Return the line that follows from a line once none of its literals is one that was added on a trail."""
        for literal, clause in reversed(trail):
            if self.proofs.literals[line] & literal:
                line = self.proofs.resolved(line, self._line(clause), literal)
        return line
