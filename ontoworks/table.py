"""Diagrams that share their nodes, from which conditions are built (points 6 and 7)."""

NEVER = 0
ALWAYS = 1
FIRST_NODE = 2


class Table:
    """Nodes, of which no two are the same, so that two diagrams say the same if and only if they have one number."""

    def __init__(self):
        self.nodes = []
        self.places = {}
        self.choices = {}

    def node(self, number, without, within):
        """Return the diagram that asks for a number and goes on with one of two diagrams."""
        if without == within:
            return without
        row = (number, without, within)
        if row not in self.places:
            self.places[row] = FIRST_NODE + len(self.nodes)
            self.nodes.append(row)
        return self.places[row]

    def choice(self, test, yes, no):
        """Return the diagram that says what `yes` says where `test` says yes, and what `no` says elsewhere."""
        if test < FIRST_NODE:
            return yes if test == ALWAYS else no
        if yes == no:
            return yes
        row = (test, yes, no)
        if row not in self.choices:
            number = min([self.nodes[diagram - FIRST_NODE][0] for diagram in row if diagram >= FIRST_NODE])
            without = [self._known(diagram, number, False) for diagram in row]
            within = [self._known(diagram, number, True) for diagram in row]
            self.choices[row] = self.node(number, self.choice(*without), self.choice(*within))
        return self.choices[row]

    def condition(self, root):
        """Return the one pair (nodes, root) of a diagram."""
        order = {NEVER: NEVER, ALWAYS: ALWAYS}
        rows = []
        self._write(root, order, rows)
        return tuple(rows), order[root]

    def _known(self, diagram, number, yes):
        """Return what is left of a diagram, which asks for no lesser number, once the answer to this one is known."""
        if diagram < FIRST_NODE:
            return diagram
        asked, without, within = self.nodes[diagram - FIRST_NODE]
        if asked != number:
            return diagram
        return within if yes else without

    def _write(self, diagram, order, rows):
        """Write the nodes of a diagram behind the rows that are there, in the order of point 7."""
        if diagram in order:
            return
        number, without, within = self.nodes[diagram - FIRST_NODE]
        self._write(without, order, rows)
        self._write(within, order, rows)
        order[diagram] = FIRST_NODE + len(rows)
        rows.append((number, order[without], order[within]))
