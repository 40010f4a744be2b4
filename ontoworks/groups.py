"""Groups of axioms, and modules of questions (point 63)."""


def group(axioms, place):
    """Return the group of the axiom at a place, a set."""
    used = [_used(axiom) for axiom in axioms]
    found = [place]
    at = 0
    while at < len(found):
        for other in range(len(axioms)):
            if other not in found and _are_linked(used[found[at]], used[other]):
                found.append(other)
        at += 1
    return tuple(sorted(found))


def module(axioms, question):
    """Return the module of a question, a set."""
    names = _used((question,))
    found = {}
    for place, axiom in enumerate(axioms):
        if place not in found and _have_common(names, _used(axiom)):
            for other in group(axioms, place):
                found[other] = True
    return tuple(sorted(list(found)))


def _are_linked(first, second):
    """Tell whether two axioms that use some names are linked."""
    return (first == [] and second == []) or _have_common(first, second)


def _have_common(first, second):
    """Tell whether two lists have a common item."""
    return any([name in second for name in first])


def _used(parts):
    """Return the names that parts of an axiom, or a question, use: a list of pairs (kind, number)."""
    found = []
    for part in parts:
        kind = part[0]
        if kind == "below":
            found.extend(_used_by_concept(part[1]) + _used_by_concept(part[2]))
        elif kind == "under":
            found.extend([("role", role[0]) for role in part[1:]])
        elif kind == "is":
            found.extend(_used_by_concept(part[2]))
        elif kind == "has":
            found.append(("role", part[2]))
    return found


def _used_by_concept(concept):
    """Return the names that a concept uses: a list of pairs (kind, number)."""
    kind = concept[0]
    if kind == "name":
        return [("concept", concept[1])]
    if kind == "some":
        return [("role", concept[1][0])] + _used_by_concept(concept[2])
    found = []
    for operand in concept[1:]:
        found.extend(_used_by_concept(operand))
    return found
