"""Classes of concepts, the picture and the relation, with numbers in place of names (points 72 to 74)."""

from ontoworks.diagrams import both, negation
from ontoworks.search import conditions, follow

ANYTHING = ("any",)
NOTHING = ("not", ("any",))


def picture(ontology, places, count):
    """Return the picture for a set of axioms and the concepts below a number."""
    if follow(ontology, places, (("never",),))[0]:
        return False, (), tuple(range(count)), ()
    questions = _questions(count, [(lower, upper) for lower in range(count) for upper in range(count)])
    found = follow(ontology, places, questions)
    impossible = tuple([concept for concept in range(count) if found[concept]])
    everything = tuple([concept for concept in range(count) if found[count + concept] and not found[concept]])
    rest = [concept for concept in range(count) if not found[concept] and not found[count + concept]]
    # What is below what among all concepts, a row for each of them.
    below = [found[2 * count + lower * count:3 * count + lower * count] for lower in range(count)]
    return True, everything, impossible, _classes(rest, below)


def relation(ontology, count, first, second):
    """Return the relation of two concepts, of all those below a number: a tuple of four conditions."""
    pairs = [(first, second), (second, first)]
    for concept in range(count):
        pairs.extend([(first, concept), (concept, first), (second, concept), (concept, second)])
    found = conditions(ontology, _questions(count, pairs))
    below = {pair: found[2 * count + place] for place, pair in enumerate(pairs)}
    inside = [_neither(found[concept], found[count + concept]) for concept in range(count)]
    both_inside = both(inside[first], inside[second])
    same = both(both_inside, both(below[(first, second)], below[(second, first)]))
    direct = both(both_inside, _strictly(below, first, second))
    for middle in range(count):
        if middle not in (first, second):
            between = both(_strictly(below, first, middle), _strictly(below, middle, second))
            direct = both(direct, negation(both(inside[middle], between)))
    return below[(first, second)], below[(second, first)], same, direct


def _questions(count, pairs):
    """Return the questions whether concepts are impossible, have everything, and, of pairs, are below each other."""
    impossible = [("below", ("name", concept), NOTHING) for concept in range(count)]
    everything = [("below", ANYTHING, ("name", concept)) for concept in range(count)]
    return tuple(impossible + everything + [("below", ("name", lower), ("name", upper)) for lower, upper in pairs])


def _classes(rest, below):
    """Return the classes of some concepts, a tuple of pairs (concepts, above)."""
    # Each class is known by its first concept.
    firsts = []
    for concept in rest:
        if not any([below[concept][first] and below[first][concept] for first in firsts]):
            firsts.append(concept)
    found = []
    for first in firsts:
        concepts = [concept for concept in rest if below[concept][first] and below[first][concept]]
        higher = [other for other in firsts if other != first and below[first][other]]
        direct = [other for other in higher if not any([below[middle][other] for middle in higher if middle != other])]
        found.append((tuple(concepts), tuple([firsts.index(other) for other in direct])))
    return tuple(found)


def _neither(impossible, everything):
    """Return the condition that a concept is neither impossible nor has everything."""
    return both(negation(impossible), negation(everything))


def _strictly(below, lower, upper):
    """Return the condition that one concept is below another one and not the other way round."""
    return both(below[(lower, upper)], negation(below[(upper, lower)]))
