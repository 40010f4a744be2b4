"""Atoms and types (points 27 to 30)."""

from ontoworks.roles import inverse


def atoms(ontology, questions):
    """Return the atoms of an ontology and some questions, a tuple of concepts, each at its first place only."""
    axioms, _ = ontology
    found = []
    for axiom in axioms:
        for part in axiom:
            _add_atoms_of_part(part, found)
    for question in questions:
        _add_atoms_of_part(question, found)
    return tuple(found)


def value(all_atoms, held, concept):
    """Tell whether a concept holds of the type with the atoms at the places `held`."""
    kind = concept[0]
    if kind == "any":
        return True
    if kind == "not":
        return not value(all_atoms, held, concept[1])
    if kind == "and":
        return value(all_atoms, held, concept[1]) and value(all_atoms, held, concept[2])
    return all_atoms.index(concept) in held


def above(ontology, members, role):
    """Return the roles that a role is under for a set of axioms, itself among them, a tuple."""
    steps = _steps(ontology, members)
    found = [role]
    at = 0
    while at < len(found):
        for lower, upper in steps:
            if lower == found[at] and upper not in found:
                found.append(upper)
        at += 1
    return tuple(sorted(found))


def can_have(ontology, members, all_atoms, role, first, second):
    """Tell whether the type `first` can have the type `second` behind a role, for a set of axioms."""
    uppers = above(ontology, members, role)
    for atom in all_atoms:
        if atom[0] == "some":
            way = atom[1]
            if way in uppers and not _keeps(all_atoms, atom, first, second):
                return False
            if inverse(way) in uppers and not _keeps(all_atoms, atom, second, first):
                return False
    return True


def _add_atoms_of_part(part, found):
    """Add the atoms of a part of an axiom, or of a question, that have not been found yet."""
    if part[0] == "below":
        _add_atoms(part[1], found)
        _add_atoms(part[2], found)
    elif part[0] == "is":
        _add_atoms(part[2], found)


def _add_atoms(concept, found):
    """Add the atoms of a concept that have not been found yet."""
    kind = concept[0]
    if kind in ("name", "some") and concept not in found:
        found.append(concept)
    if kind == "some":
        _add_atoms(concept[2], found)
    elif kind in ("not", "and"):
        for operand in concept[1:]:
            _add_atoms(operand, found)


def _steps(ontology, members):
    """Return the pairs of roles of which the first is directly under the second, for a set of axioms."""
    axioms, _ = ontology
    steps = []
    for member in members:
        for part in axioms[member]:
            if part[0] == "under":
                steps.append((part[1], part[2]))
                steps.append((inverse(part[1]), inverse(part[2])))
    return steps


def _keeps(all_atoms, atom, holder, other):
    """Tell whether an atom `some` holds of the type `holder`, or else what it looks for does not hold of `other`."""
    return value(all_atoms, holder, atom) or not value(all_atoms, other, atom[2])
