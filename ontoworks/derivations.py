"""Derivations and the checker that accepts them from anybody (points 43 to 51, 53 and 54)."""

from ontoworks.roles import inverse


def is_certain(has, place, concept, holds):
    """Tell whether a concept is certain to hold, or else to fail, at a place where some concepts are known to hold."""
    return _is_settled(_known(has, place), concept, holds)


def role_behind(ontology, places, role, steps):
    """Return the role to which steps lead from a role, or None if they lead nowhere."""
    for axiom, part, turned in steps:
        named = _part(ontology, places, axiom, part, "under")
        if named is None:
            return None
        _, lower, upper = named
        if role != (inverse(lower) if turned else lower):
            return None
        role = inverse(upper) if turned else upper
    return role


def is_right(ontology, places, before, line):
    """Tell whether the reason of a line is right, where `before` are the lines that come before it."""
    shape, rows, reason = line
    kind = reason[0]
    if kind == "clash":
        _, place, concept = reason
        return is_certain(rows, place, concept, True) and is_certain(rows, place, concept, False)
    if kind == "axiom":
        return _is_right_axiom(ontology, places, rows, reason)
    if kind == "line":
        _, place, number = reason
        return _has_shape(before, number, ("thing",)) and _are_certain(rows, _moved(before[number], place))
    if kind == "split":
        return _is_right_split(before, shape, rows, reason)
    if kind == "need":
        return _is_right_need(before, rows, reason)
    if kind == "role":
        return _is_right_role(ontology, places, line)
    if kind == "member":
        return _is_right_member(ontology, places, line)
    return _is_right_link(ontology, places, line)


def answers_question(question, line):
    """Tell whether a line answers a question."""
    shape, rows, _ = line
    kind = question[0]
    if shape == ("family",):
        return _are_certain(((question[1], ("not", question[2])),) if kind == "is" else (), rows)
    has = ()
    if kind == "below":
        has = ((0, question[1]), (0, ("not", question[2])))
    elif kind == "is":
        has = ((0, ("not", question[2])),)
    return shape == ("thing",) and _are_certain(has, _moved(line, 0))


def check(ontology, places, question, derivation):
    """Return None if a derivation is accepted for a set of axioms and a question, otherwise its fault."""
    if derivation[0] == "said":
        return None if _is_said(ontology, places, question, derivation) else 0
    lines = derivation[1]
    for number, line in enumerate(lines):
        if not is_right(ontology, places, lines[:number], line):
            return number
    if lines and answers_question(question, lines[-1]):
        return None
    return len(lines)


def named_axioms(derivation):
    """Return the axioms that a derivation names, a set."""
    if derivation[0] == "said":
        _, axiom, _, _, steps = derivation
        return _as_set([axiom] + _axioms_of_steps(steps))
    named = []
    for _, _, reason in derivation[1]:
        named.extend(_axioms_of_reason(reason))
    return _as_set(named)


def _known(has, place):
    """Return what is known of the thing at a place: the concepts that hold, and those that fail."""
    holding = []
    failing = []
    found = [(concept, True) for other, concept in has if other == place]
    while found:
        concept, holds = found.pop()
        if holds:
            holding.append(concept)
        else:
            failing.append(concept)
        if concept[0] == "not":
            found.append((concept[1], not holds))
        elif concept[0] == "and" and holds:
            found.extend([(concept[1], True), (concept[2], True)])
    return holding, failing


def _is_settled(known, concept, holds):
    """Tell whether a concept is certain to hold, or else to fail, by what is known of a thing."""
    holding, failing = known
    if concept in (holding if holds else failing):
        return True
    kind = concept[0]
    if kind == "any":
        return holds
    if kind == "not":
        return _is_settled(known, concept[1], not holds)
    if kind == "and":
        settled = [_is_settled(known, operand, holds) for operand in concept[1:]]
        return all(settled) if holds else any(settled)
    return False


def _are_certain(has, rows):
    """Tell whether the concepts of some rows are certain to hold at their places, where some are known to hold."""
    known = {}
    for place, concept in rows:
        if place not in known:
            known[place] = _known(has, place)
        if not _is_settled(known[place], concept, True):
            return False
    return True


def _moved(line, place):
    """Return the rows of a line, all of them moved to one place."""
    return [(place, concept) for _, concept in line[1]]


def _has_shape(before, number, shape):
    """Tell whether a line comes before and has a shape."""
    return number < len(before) and before[number][0] == shape


def _part(ontology, places, axiom, part, kind):
    """Return a part of an axiom of a set, or None if the axiom is not in the set, or has no such part of this kind."""
    axioms, _ = ontology
    if axiom not in places or axiom >= len(axioms) or part >= len(axioms[axiom]):
        return None
    named = axioms[axiom][part]
    return named if named[0] == kind else None


def _is_right_axiom(ontology, places, rows, reason):
    """Tell whether a reason `axiom` is right."""
    _, place, axiom, part = reason
    named = _part(ontology, places, axiom, part, "below")
    if named is None:
        return False
    _, lower, upper = named
    return is_certain(rows, place, lower, True) and is_certain(rows, place, upper, False)


def _is_right_split(before, shape, rows, reason):
    """Tell whether a reason `split` is right."""
    _, place, concept, within, without = reason
    if not (_has_shape(before, within, shape) and _has_shape(before, without, shape)):
        return False
    return (_are_certain(rows + ((place, concept),), before[within][1])
            and _are_certain(rows + ((place, ("not", concept)),), before[without][1]))


def _is_right_need(before, rows, reason):
    """Tell whether a reason `need` is right."""
    _, place, role, concept, number = reason
    if not _has_shape(before, number, ("pair", role)) or not is_certain(rows, place, ("some", role, concept), True):
        return False
    named = before[number][1]
    here = [(place, row) for other, row in named if other == 0]
    behind = [(1, row) for other, row in named if other != 0]
    return _are_certain(rows, here) and _are_certain(((1, concept),), behind)


def _is_right_role(ontology, places, line):
    """Tell whether a reason `role` is right."""
    shape, rows, reason = line
    _, steps, backwards, concept = reason
    if shape[0] != "pair":
        return False
    role = role_behind(ontology, places, shape[1], steps)
    return role is not None and _is_against(rows, role, backwards, concept, (0, 1))


def _is_right_member(ontology, places, line):
    """Tell whether a reason `member` is right."""
    shape, rows, reason = line
    _, axiom, part = reason
    named = _part(ontology, places, axiom, part, "is")
    return shape == ("family",) and named is not None and is_certain(rows, named[1], named[2], False)


def _is_right_link(ontology, places, line):
    """Tell whether a reason `link` is right."""
    shape, rows, reason = line
    _, axiom, part, steps, backwards, concept = reason
    named = _part(ontology, places, axiom, part, "has")
    if shape != ("family",) or named is None:
        return False
    _, first, number, second = named
    role = role_behind(ontology, places, (number, False), steps)
    return role is not None and _is_against(rows, role, backwards, concept, (first, second))


def _is_against(rows, role, backwards, concept, pair):
    """Tell whether by some rows the thing at the first place of a pair cannot have the other one behind a role."""
    first, second = pair
    if backwards:
        first, second, role = second, first, inverse(role)
    return is_certain(rows, first, ("some", role, concept), False) and is_certain(rows, second, concept, True)


def _is_said(ontology, places, question, derivation):
    """Tell whether a derivation `said` is accepted."""
    _, axiom, part, turned, steps = derivation
    named = _part(ontology, places, axiom, part, "has")
    if question[0] != "has" or named is None:
        return False
    _, first, number, second = named
    if turned:
        first, second = second, first
    wanted = ("has", first, question[2], second)
    return question == wanted and role_behind(ontology, places, (number, False), steps) == (question[2], turned)


def _axioms_of_reason(reason):
    """Return the axioms that a reason names, a list."""
    kind = reason[0]
    if kind == "axiom":
        return [reason[2]]
    if kind == "member":
        return [reason[1]]
    if kind == "role":
        return _axioms_of_steps(reason[1])
    if kind == "link":
        return [reason[1]] + _axioms_of_steps(reason[3])
    return []


def _axioms_of_steps(steps):
    """Return the axioms of steps, a list."""
    return [axiom for axiom, _, _ in steps]


def _as_set(numbers):
    """Return a set of numbers from a list in which they stand in any order."""
    return tuple(sorted({number for number in numbers}))
