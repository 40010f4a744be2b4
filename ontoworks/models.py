"""Finite models: what belongs to a concept, what holds, what is broken, smaller models (points 35 to 40)."""


def members(model, concept):
    """Return the things that belong to a concept, a tuple."""
    return tuple([thing for thing, inside in enumerate(_belonging(model, concept)) if inside])


def part_fault(model, part):
    """Return the fault of a part of an axiom, a tuple of things, or None if the part holds."""
    kind = part[0]
    if kind == "below":
        return _below_fault(model, part[1], part[2])
    if kind == "under":
        return _under_fault(model, part[1], part[2])
    ones = model[2]
    if kind == "is":
        thing = ones[part[1]]
        return None if _belonging(model, part[2])[thing] else (thing,)
    _, first, number, second = part
    pair = (ones[first], ones[second])
    return None if pair in _pairs(model, (number, False)) else pair


def breaks(model, ontology, places):
    """Return a triple (axiom, part, things) for each axiom of a set that the model breaks, a tuple."""
    axioms, _ = ontology
    broken = []
    for place in places:
        fault = _first_fault(model, axioms[place])
        if fault is not None:
            broken.append((place,) + fault)
    return tuple(broken)


def answers(model, question):
    """Tell whether a question holds in a model."""
    # All questions but one are written as parts of axioms are, and hold as they do.
    return question[0] != "never" and part_fault(model, question) is None


def smaller(model, concepts):
    """Return the smaller model for a tuple of concepts."""
    things, links, ones = model
    looks = _looks(model, concepts)
    firsts = {}
    numbers = []
    kept = []
    for thing, look in enumerate(looks):
        if thing not in ones and look in firsts:
            numbers.append(firsts[look])
        else:
            if thing not in ones:
                firsts[look] = len(kept)
            numbers.append(len(kept))
            kept.append(things[thing])
    moved = sorted({(role, numbers[first], numbers[second]) for role, first, second in links})
    return tuple(kept), tuple(moved), tuple([numbers[thing] for thing in ones])


def _belonging(model, concept):
    """Return for each thing of a model whether it belongs to a concept, a list."""
    things = model[0]
    kind = concept[0]
    if kind == "any":
        return [True] * len(things)
    if kind == "name":
        return [concept[1] in names for names in things]
    if kind == "not":
        return [not inside for inside in _belonging(model, concept[1])]
    if kind == "and":
        first = _belonging(model, concept[1])
        second = _belonging(model, concept[2])
        return [first[thing] and second[thing] for thing in range(len(things))]
    looked = _belonging(model, concept[2])
    found = [False] * len(things)
    for thing, other in _pairs(model, concept[1]):
        if looked[other]:
            found[thing] = True
    return found


def _pairs(model, role):
    """Return the pairs of things of which the first has the second behind a role, an ascending list."""
    number, back = role
    pairs = [(first, second) for name, first, second in model[1] if name == number]
    return sorted([(second, first) for first, second in pairs]) if back else sorted(pairs)


def _below_fault(model, lower, upper):
    """Return the fault of a part `below`, or None."""
    inside = _belonging(model, upper)
    for thing in members(model, lower):
        if not inside[thing]:
            return (thing,)
    return None


def _under_fault(model, lower, upper):
    """Return the fault of a part `under`, or None."""
    there = {pair: True for pair in _pairs(model, upper)}
    for pair in _pairs(model, lower):
        if pair not in there:
            return pair
    return None


def _first_fault(model, axiom):
    """Return the pair (part, things) of the first part of an axiom that does not hold, or None if all hold."""
    for number, part in enumerate(axiom):
        things = part_fault(model, part)
        if things is not None:
            return number, things
    return None


def _looks(model, concepts):
    """Return for each thing the tuple that tells to which of some concepts it belongs; like things have the same."""
    columns = [_belonging(model, concept) for concept in concepts]
    return [tuple([column[thing] for column in columns]) for thing in range(len(model[0]))]
