import random
import unittest

from ontoworks.derivations import check, named_axioms
from ontoworks.diagrams import holds
from ontoworks.explaining import explanation
from ontoworks.models import answers, breaks
from ontoworks.search import condition
from tests.faults import kinds
from tests.large import counter, crowded
from tests.plain import (
    A, ANY, B, C, D, NONE, R, R_BACK, S, S_BACK, Maker, below, both, either, every, follows, neg, some, subsets)

EVERYTHING = tuple(range(10))


class ExplanationTest(unittest.TestCase):
    def derived(self, axioms, individuals, question, places=None):
        """Return the derivation for a question, which has to be accepted, also for the axioms alone that it names."""
        ontology = (tuple(axioms), individuals)
        places = tuple(range(len(axioms))) if places is None else places
        word, derivation = explanation(ontology, places, question)
        self.assertEqual(word, "derivation", (ontology, places, question))
        self.assertIsNone(check(ontology, places, question, derivation), (ontology, places, question, derivation))
        named = named_axioms(derivation)
        self.assertLessEqual(set(named), set(places))
        self.assertIsNone(check(ontology, named, question, derivation))
        return derivation

    def modelled(self, axioms, individuals, question, places=None):
        """Return the model for a question, in which the axioms have to hold and the question must not."""
        ontology = (tuple(axioms), individuals)
        places = tuple(range(len(axioms))) if places is None else places
        word, model = explanation(ontology, places, question)
        self.assertEqual(word, "model", (ontology, places, question))
        self.assertEqual(breaks(model, ontology, places), ())
        self.assertIs(answers(model, question), False)
        return model

    def reasons(self, *asked):
        """Return the words of the reasons of a derivation."""
        return {line[2][0] for line in self.derived(*asked)[1]}

    def test_the_examples_of_the_first_points(self):
        person, parent, mother = A, B, C
        having = both(person, some(R, person))
        axioms = ((("below", parent, having), ("below", having, parent)), below(mother, parent), (("is", 0, mother),),
                  (("is", 1, person),))
        derivation = self.derived(axioms, 2, ("is", 0, some(R, person)))
        self.assertEqual(named_axioms(derivation), (0, 1, 2))
        self.modelled(axioms, 2, ("has", 0, 0, 1))

    def test_what_follows_from_nothing(self):
        for question in (("below", A, A), ("below", A, ANY), ("below", NONE, A), ("below", both(A, B), B),
                         ("below", ANY, either(A, neg(A))), ("is", 1, ANY), ("is", 1, either(A, neg(A))),
                         ("below", neg(neg(A)), A), ("below", A, neg(neg(A))),
                         ("below", neg(both(A, B)), neg(both(B, A))),
                         ("below", both(A, neg(A)), NONE), ("below", some(R, both(A, B)), some(R, both(B, A))),
                         ("is", 0, neg(some(R, NONE))), ("below", A, every(R, some(R_BACK, A)))):
            self.assertEqual(named_axioms(self.derived((), 2, question)), ())

    def test_reasons_that_are_needed(self):
        self.assertIn("split", self.reasons((below(A, either(B, C)), below(B, D), below(C, D)), 0, ("below", A, D)))
        self.assertIn("need", self.reasons((below(A, some(R, B)), below(B, NONE)), 0, ("below", A, NONE)))
        self.assertIn("role", self.reasons((), 0, ("below", some(R, both(A, B)), some(R, A))))
        self.assertIn("member", self.reasons(((("is", 0, A),),), 1, ("is", 0, A)))
        self.assertIn("link", self.reasons(((("has", 0, 0, 1),), (("is", 1, A),)), 2, ("is", 0, some(R, A))))
        self.assertIn("link", self.reasons(((("has", 0, 0, 1),), (("is", 0, A),)), 2, ("is", 1, some(R_BACK, A))))
        self.assertIn("line", self.reasons((below(A, some(R, B)), below(B, some(R, C)), below(C, NONE)), 0,
                                           ("below", A, NONE)))

    def test_steps(self):
        under = (("under", R, S), ("under", S, (2, True)))
        for role, upper in ((R, S), (R, (2, True)), (R_BACK, S_BACK), (R_BACK, (2, False)), (S, (2, True))):
            self.derived((under,), 0, ("below", some(role, A), some(upper, A)))
            self.derived((under, below(some(upper, A), B)), 0, ("below", some(role, A), B))
            self.derived((under, below(A, every(upper, B))), 0, ("below", some(role, A), some(role, either(B, ANY))))
        self.derived((under, (("has", 0, 0, 1),), (("is", 1, A),)), 2, ("is", 0, some((2, True), A)))
        self.derived((under, (("has", 0, 0, 1),), (("is", 0, A),)), 2, ("is", 1, some((2, False), A)))

    def test_what_is_said_in_both_directions(self):
        axioms = ((("has", 0, 0, 1),), (("under", R, S),), (("under", S, R_BACK),), (("has", 1, 1, 1),))
        self.assertEqual(self.derived(axioms, 2, ("has", 0, 0, 1))[:4], ("said", 0, 0, False))
        self.assertEqual(self.derived(axioms, 2, ("has", 0, 1, 1)), ("said", 0, 0, False, ((1, 0, False),)))
        self.assertEqual(self.derived(axioms, 2, ("has", 1, 0, 0)),
                         ("said", 0, 0, True, ((1, 0, False), (2, 0, False))))
        self.derived(axioms, 2, ("has", 1, 1, 0))
        self.derived(axioms, 2, ("has", 1, 1, 1))
        self.derived(axioms, 2, ("has", 1, 0, 1))
        self.modelled(axioms, 2, ("has", 0, 0, 0))
        self.modelled(axioms, 2, ("has", 0, 1, 1), places=(0, 2, 3))

    def test_every_kind_of_question_where_nothing_holds_together(self):
        axioms = ((("is", 0, A),), below(A, NONE), (("has", 0, 0, 1),))
        for question in (("never",), ("below", B, C), ("is", 1, B), ("has", 1, 1, 0), ("has", 0, 0, 0)):
            self.assertEqual(self.derived(axioms, 2, question)[0], "lines")
            self.modelled(axioms, 2, question, places=(0, 2))

    def test_never_without_individuals(self):
        axioms = (below(ANY, some(R, A)), below(A, NONE))
        self.derived(axioms, 0, ("never",))
        self.derived(axioms, 0, ("below", ANY, NONE))
        self.modelled(axioms, 0, ("never",), places=(0,))

    def test_what_follows_exactly_has_a_derivation(self):
        for seed in range(120):
            ontology, question = Maker(seed).pair(1 + seed % 4)
            for members in subsets(len(ontology[0])):
                if follows(ontology, members, question):
                    self.derived(ontology[0], ontology[1], question, members)
                else:
                    self.modelled(ontology[0], ontology[1], question, members)

    def test_the_bounds(self):
        ontology, start = counter()
        derivation = self.derived(ontology[0], 0, ("below", start, NONE), EVERYTHING)
        self.assertIn(named_axioms(derivation), ((0, 1, 2, 3, 4, 5, 6), (0, 1, 2, 3, 4, 5, 7)))
        self.modelled(ontology[0], 0, ("below", start, NONE), (0, 1, 2, 3, 5, 6, 7, 8, 9))
        for seed in range(12):
            ontology, question = crowded(seed, seed % 5)
            found = condition(ontology, question)
            for places in (EVERYTHING, EVERYTHING[::2], EVERYTHING[2:]):
                if holds(found, places):
                    self.derived(ontology[0], ontology[1], question, places)
                else:
                    self.modelled(ontology[0], ontology[1], question, places)

    def test_values(self):
        self.assertEqual(kinds(explanation(((below(A, B),), 0), (0,), ("below", A, B))), {tuple, str, int})
        self.assertEqual(kinds(explanation(((below(A, B),), 0), (), ("below", A, B))), {tuple, str, int})


def leaves(value):
    """Return the ways (tuples of indexes) to all things in a tuple that are no tuples."""
    if not isinstance(value, tuple):
        return [()]
    return [(at,) + way for at, part in enumerate(value) for way in leaves(part)]


def changed(value, way, chosen):
    """Return a tuple with another value of the same kind at a way."""
    if way:
        at = way[0]
        return value[:at] + (changed(value[at], way[1:], chosen),) + value[at + 1:]
    if isinstance(value, bool):
        return not value
    return chosen.randrange(4) if isinstance(value, int) else value


def crossed(lines, chosen):
    """Return lines of which one is left out, or has the rows of another one, or has a row less."""
    at = chosen.randrange(len(lines))
    shape, rows, reason = lines[at]
    kind = chosen.randrange(3)
    if kind == 0:
        return lines[:at] + lines[at + 1:]
    if kind == 1:
        rows = chosen.choice(lines)[1]
    elif rows:
        gone = chosen.randrange(len(rows))
        rows = rows[:gone] + rows[gone + 1:]
    return lines[:at] + ((shape, rows, reason),) + lines[at + 1:]


class CheckerTest(unittest.TestCase):
    def test_what_is_accepted_from_anybody_follows(self):
        """Change derivations somewhere: if one is still accepted, its question follows."""
        accepted = 0
        for seed in range(150):
            chosen = random.Random(seed)
            ontology, question = Maker(seed).pair(3)
            everything = (0, 1, 2)
            word, derivation = explanation(ontology, everything, question)
            if word == "model":
                continue
            told = {members: follows(ontology, members, question) for members in subsets(3)}
            for _ in range(60):
                other = changed(derivation, chosen.choice(leaves(derivation)), chosen)
                if derivation[0] == "lines" and chosen.random() < 0.5:
                    other = ("lines", crossed(derivation[1], chosen))
                for members in subsets(3):
                    if check(ontology, members, question, other) is None:
                        self.assertTrue(told[members], (ontology, members, question, other))
                        accepted += 1
        self.assertGreater(accepted, 100)

    def test_an_accepted_derivation_answers_no_question_that_does_not_follow(self):
        for seed in range(150):
            maker = Maker(seed)
            ontology, question = maker.pair(3)
            word, derivation = explanation(ontology, (0, 1, 2), question)
            if word == "derivation":
                for _ in range(5):
                    other = maker.question()
                    if check(ontology, (0, 1, 2), other, derivation) is None:
                        self.assertEqual(explanation(ontology, (0, 1, 2), other)[0], "derivation")


if __name__ == "__main__":
    unittest.main()
