"""Reasons and repairs, blame, shares and chances, read off a condition (points 55 to 62)."""

from math import factorial, gcd

from ontoworks.diagrams import asks, holds, restricted

CASES = 1000


def all_reasons(condition):
    """Return all least reasons, a tuple of sets in their order."""
    found = []
    for members in _subsets(asks(condition)):
        if holds(condition, members) and not any([_has_all(members, other) for other in found]):
            found.append(members)
    return tuple(found)


def reasons(condition, taken):
    """Return the least reasons all of whose axioms are taken, a tuple of sets in their order."""
    return tuple([reason for reason in all_reasons(condition) if _has_all(taken, reason)])


def repairs(condition, taken):
    """Return the least repairs, a tuple of sets in their order."""
    found = []
    for removed in _subsets(_concerned(condition, taken)):
        if not holds(condition, _without(taken, removed)) and not any([_has_all(removed, other) for other in found]):
            found.append(removed)
    return tuple(found)


def cheapest_repair(condition, taken, costs):
    """Return the pair (cost, set) of the cheapest repair, or None if there is none."""
    best = None
    # A repair that is not least costs no less than a least one in it, and comes behind it.
    for repair in repairs(condition, taken):
        prices = [costs[axiom] for axiom in repair]
        if None not in prices and (best is None or sum(prices) < best[0]):
            best = (sum(prices), repair)
    return best


def blame(condition, taken):
    """Return a pair (axiom, others) for each axiom that is to blame, a tuple."""
    found = []
    for axiom in _concerned(condition, taken):
        others = _others(condition, taken, axiom)
        if others is not None:
            found.append((axiom, others))
    return tuple(found)


def shares(condition, taken):
    """Return a pair (axiom, share) for each axiom that is taken and on which the condition depends, a tuple."""
    concerned = _concerned(condition, taken)
    return tuple([(axiom, _share(condition, concerned, axiom)) for axiom in concerned])


def chance(condition, chances):
    """Return the chance of the condition, a fraction."""
    yes, all_cases = _cases(condition, chances)
    return _fraction(yes, all_cases)


def right(condition, chances):
    """Return the chance of each axiom if the condition says no, a tuple, or None if it never does."""
    yes, all_cases = _cases(condition, chances)
    if yes == all_cases:
        return None
    found = []
    for axiom, cases in enumerate(chances):
        yes_with, cases_with = _cases(restricted(condition, axiom, True), chances)
        no_and_right = cases * (cases_with - yes_with) * all_cases
        found.append(_fraction(no_and_right, CASES * cases_with * (all_cases - yes)))
    return tuple(found)


def _subsets(numbers):
    """Return all sets of some ascending numbers, a list in the order of sets."""
    found = [()]
    at = 0
    while at < len(found):
        members = found[at]
        found.extend([members + (number,) for number in numbers if members == () or number > members[-1]])
        at += 1
    return found


def _has_all(members, others):
    """Tell whether a set has all members of another one."""
    return all([number in members for number in others])


def _without(members, removed):
    """Return a set without the members of another one."""
    return tuple([number for number in members if number not in removed])


def _concerned(condition, taken):
    """Return the axioms that are taken and on which the condition depends, a set."""
    return tuple([axiom for axiom in asks(condition) if axiom in taken])


def _others(condition, taken, axiom):
    """Return the others of an axiom, a set, or None if it is not to blame."""
    for removed in _subsets(_without(_concerned(condition, taken), (axiom,))):
        left = _without(taken, removed)
        if holds(condition, left) and not holds(condition, _without(left, (axiom,))):
            return removed
    return None


def _share(condition, concerned, axiom):
    """Return the share of an axiom among the concerned ones, a fraction."""
    count = len(concerned)
    orders = 0
    for before in _subsets(_without(concerned, (axiom,))):
        if not holds(condition, before) and holds(condition, tuple(sorted(before + (axiom,)))):
            orders = orders + factorial(len(before)) * factorial(count - 1 - len(before))
    return _fraction(orders, factorial(count))


def _cases(condition, chances):
    """Return in how many cases, and out of how many, the condition says yes to the axioms that are right."""
    nodes, root = condition
    all_cases = 1
    for _ in asks(condition):
        all_cases = all_cases * CASES
    cases = [0, all_cases]
    for number, without, within in nodes:
        # Neither of the two diagrams depends on the number of the node, so the division leaves no rest.
        mixed = (CASES - chances[number]) * cases[without] + chances[number] * cases[within]
        cases.append(mixed // CASES)
    return cases[root], all_cases


def _fraction(numerator, denominator):
    """Return a fraction in lowest terms."""
    common = gcd(numerator, denominator)
    return numerator // common, denominator // common
