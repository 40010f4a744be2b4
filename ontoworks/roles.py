"""Roles with numbers (points 5 and 29)."""


def inverse(role):
    """Return the inverse of a role."""
    number, back = role
    return number, not back


def ways_up(ontology, places, role):
    """Return the roles that a role is under for a set of axioms, itself among them: a list of pairs (role, steps)."""
    direct = _direct_steps(ontology, places)
    found = [(role, ())]
    reached = [role]
    at = 0
    while at < len(found):
        middle, steps = found[at]
        for lower, upper, step in direct:
            if lower == middle and upper not in reached:
                reached.append(upper)
                found.append((upper, steps + (step,)))
        at += 1
    return found


def _direct_steps(ontology, places):
    """Return a triple (lower role, upper role, step) for each step that the axioms of a set allow, a list."""
    axioms, _ = ontology
    found = []
    for place in places:
        for number, part in enumerate(axioms[place]):
            if part[0] == "under":
                _, lower, upper = part
                found.append((lower, upper, (place, number, False)))
                found.append((inverse(lower), inverse(upper), (place, number, True)))
    return found
