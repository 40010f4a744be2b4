"""Ontologies with 10 axioms and 12 atoms, and questions with 8 atoms (point 4)."""

import random

from tests.plain import ANY, both, either, every, neg, some

R = (0, False)


def all_of(concepts):
    """Return the concept to which all things belong that belong to all of some concepts."""
    return both(*concepts) if concepts else ANY


def one_of(concepts):
    found = concepts[0]
    for concept in concepts[1:]:
        found = either(found, concept)
    return found


def counter():
    """Return an ontology of 10 axioms, and the concept of zero.

    By the axioms 0 to 5 things count in binary with three digits: behind r is the next number. Axiom 6 says that there
    is no seven, and so does axiom 7 by another concept; the others have nothing to do with it.
    """
    bits = [("name", number) for number in range(3)]
    axioms = [(("below", ANY, some(R, ANY)),)]
    for number, bit in enumerate(bits):
        low = all_of(bits[:number])
        axioms.append((("below", both(low, bit), every(R, neg(bit))), ("below", both(low, neg(bit)), every(R, bit))))
        if number:
            axioms.append((("below", both(neg(low), bit), every(R, bit)),
                           ("below", both(neg(low), neg(bit)), every(R, neg(bit)))))
    axioms.append((("below", all_of(bits), neg(ANY)),))
    axioms.append((("below", both(*bits), ("name", 3)), ("below", ("name", 3), neg(ANY))))
    axioms.append((("below", ("name", 4), neg(("name", 4))),))
    axioms.append((("under", R, (1, False)),))
    return (tuple(axioms), 0), all_of([neg(bit) for bit in bits])


def signed(chosen, concepts):
    """Return one of some concepts, or `not` with it."""
    concept = chosen.choice(concepts)
    return concept if chosen.random() < 0.5 else neg(concept)


def crowded(seed, individuals):
    """Return an ontology with 10 axioms and 12 atoms, each axiom of which says much of them, and a question."""
    chosen = random.Random(seed)
    names = [("name", number) for number in range(6)]
    pool = list(names)
    while len(pool) < 12:
        role = (chosen.randrange(2), chosen.random() < 0.4)
        atom = some(role, all_of([signed(chosen, names) for _ in range(chosen.choice((1, 2)))]))
        if atom not in pool:
            pool.append(atom)
    axioms = []
    for number in range(10):
        clauses = [one_of([signed(chosen, pool) for _ in range(3)]) for _ in range(4)]
        parts = [("below", ANY, all_of(clauses))]
        if individuals and number % 3 == 0:
            parts = [("is", chosen.randrange(individuals), one_of([signed(chosen, pool) for _ in range(2)]))]
        if individuals and number % 3 == 1:
            parts.append(("has", chosen.randrange(individuals), 0, chosen.randrange(individuals)))
        axioms.append(tuple(parts))
    # All atoms occur, so that there are 12 of them.
    axioms[0] = axioms[0] + (("below", all_of(pool), ANY),)
    asked = [("name", number) for number in range(2, 8)] + [some((1, False), ("name", 6)), some((2, True), ("name", 7))]
    question = ("below", all_of([signed(chosen, asked) for _ in range(3)]),
                one_of([signed(chosen, asked) for _ in range(2)] + [all_of(asked)]))
    return (tuple(axioms), individuals), question
