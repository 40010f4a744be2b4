"""Proofs: lines that follow from each other, of which the lines of derivations are made.

A line is known by its number. Its rows are a set of literals. Its label is the set of axioms that it needs, an integer
with a bit for each axiom. Its reason is a reason of a derivation, with the numbers that lines have here.
"""


class Proofs:
    """All lines that have been found, each behind those that its reason names."""

    def __init__(self, basis):
        self.basis = basis
        self.shapes = []
        self.literals = []
        self.labels = []
        self.grounds = []
        self.numbers = {}

    def add(self, shape, literals, label, reason):
        """Return the number of a line, which is an earlier one with the same rows if that needs no other axioms."""
        key = (shape, literals)
        number = self.numbers.get(key)
        if number is None or self.labels[number] & ~label:
            number = len(self.shapes)
            self.numbers[key] = number
            self.shapes.append(shape)
            self.literals.append(literals)
            self.labels.append(label)
            self.grounds.append(reason)
        return number

    def resolved(self, first, second, literal):
        """Return the line that follows from one with a literal and one with its opposite, without the two."""
        shape = self.shapes[first]
        opposite = self.basis.opposite(literal)
        rest = self.literals[first] & ~literal | self.literals[second] & ~opposite
        within, without = (first, second) if literal & self.basis.evens else (second, first)
        thing, concept = self.basis.row_of((literal | opposite) & self.basis.evens)
        reason = ("split", _place(shape, thing), concept, within, without)
        return self.add(shape, rest, self.labels[first] | self.labels[second], reason)

    def derivation(self, last):
        """Return the derivation that ends with a line."""
        wanted = {last: True}
        for number in range(last, -1, -1):
            if number in wanted:
                for named in _named(self.grounds[number]):
                    wanted[named] = True
        places = {}
        lines = []
        for number in sorted(wanted):
            places[number] = len(lines)
            lines.append((self.shapes[number], self._rows(number), _renumbered(self.grounds[number], places)))
        return ("lines", tuple(lines))

    def _rows(self, number):
        """Return the rows of a line, by their places."""
        shape = self.shapes[number]
        rows = [(_place(shape, thing), concept) for thing, concept in self.basis.rows_of(self.literals[number])]
        return tuple(sorted(rows, key=lambda row: row[0]))


def _place(shape, thing):
    """Return the place of a thing: what is behind a role is the first thing in the sets of literals."""
    return 1 - thing if shape[0] == "pair" else thing


def _named(reason):
    """Return the numbers of the lines that a reason names, a tuple."""
    if reason[0] == "split":
        return reason[3:]
    if reason[0] in ("line", "need"):
        return reason[-1:]
    return ()


def _renumbered(reason, places):
    """Return a reason with the places of the lines that it names."""
    named = _named(reason)
    if not named:
        return reason
    return reason[:-len(named)] + tuple([places[number] for number in named])
