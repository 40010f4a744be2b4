import unittest

from ontoworks.atoms import atoms
from ontoworks.countermodels import counter_model
from ontoworks.diagrams import holds
from ontoworks.models import answers, breaks
from ontoworks.search import condition
from tests.faults import kinds
from tests.large import counter, crowded
from tests.plain import (
    A, ANY, B, C, NONE, R, R_BACK, S, S_BACK, Maker, below, both, either, every, follows, neg, some, subsets)


def used(parts):
    """Return the pair of the sets of the numbers of concepts and of roles in some parts or questions."""
    text = repr(parts)
    concepts = {number for number in range(10) if f"('name', {number})" in text}
    roles = {number for number in range(10) if f"({number}, True)" in text or f"({number}, False)" in text}
    return concepts, roles | {part[2] for part in parts if part[0] == "has"}


class CounterModelTest(unittest.TestCase):
    def check(self, ontology, places, question):
        """Check that there is a counter-model, and that it is one in which all is as points 35 and 41 say."""
        model = counter_model(ontology, places, question)
        self.assertIsNotNone(model, (ontology, places, question))
        things, links, ones = model
        parts = [part for axiom in ontology[0] for part in axiom] + [question]
        concepts, roles = used(parts)
        self.assertGreaterEqual(len(things), 1)
        for names in things:
            self.assertEqual(names, tuple(sorted(set(names))))
            self.assertLessEqual(set(names), concepts)
        self.assertEqual(links, tuple(sorted(set(links))))
        for role, one, other in links:
            self.assertIn(role, roles)
            self.assertIn(one, range(len(things)))
            self.assertIn(other, range(len(things)))
        self.assertEqual(len(ones), ontology[1])
        for one in ones:
            self.assertIn(one, range(len(things)))
        self.assertLessEqual(kinds(model), {tuple, int})
        self.assertEqual(breaks(model, ontology, places), ())
        self.assertIs(answers(model, question), False)
        return model

    def test_questions_that_follow(self):
        ontology = ((below(A, B), (("is", 0, A),), (("has", 0, 0, 1),), below(B, NONE)), 2)
        for places, question in (
                ((0,), ("below", A, B)), ((0, 1), ("is", 0, B)), ((2,), ("has", 0, 0, 1)), ((), ("below", A, A)),
                ((0, 1, 3), ("never",)), ((0, 1, 3), ("has", 1, 0, 0)), ((0, 1, 3), ("below", ANY, B))):
            self.assertIsNone(counter_model(ontology, places, question))

    def test_each_kind_of_question(self):
        ontology = ((below(A, B), (("is", 0, A),), (("has", 0, 0, 1),), below(B, NONE)), 2)
        for places, question in (
                ((), ("below", A, B)), ((1, 2, 3), ("below", A, B)), ((0,), ("is", 0, B)), ((1, 2), ("is", 0, B)),
                ((0, 1), ("has", 0, 0, 1)), ((0, 1, 2), ("has", 1, 0, 0)), ((0, 1, 2), ("has", 0, 0, 0)),
                ((0, 2, 3), ("never",)), ((0, 1, 2), ("below", ANY, C)), ((0, 1, 2), ("is", 1, some((3, True), ANY)))):
            self.check(ontology, places, question)

    def test_a_question_that_fails_beside_the_individuals(self):
        ontology = ((below(A, some(R, B)), (("is", 0, A),), (("is", 1, neg(A)),)), 2)
        self.check(ontology, (0, 1, 2), ("below", A, B))
        self.check(ontology, (0, 1, 2), ("below", B, A))
        self.check(ontology, (0, 1, 2), ("below", both(A, C), B))

    def test_no_link_that_is_not_said(self):
        # Thing 0 has something of B behind r; that thing 1 is of B must not make it this one.
        ontology = ((below(A, some(R, B)), (("is", 0, A),), (("is", 1, B),), (("under", R, S_BACK),),
                     (("is", 0, every(R, B)),)), 2)
        for question in (("has", 0, 0, 1), ("has", 1, 1, 0), ("has", 0, 0, 0), ("has", 1, 0, 1)):
            self.check(ontology, (0, 1, 2, 3, 4), question)

    def test_what_fails_of_a_thing_fails_for_all_that_it_has(self):
        # What a thing has behind r belongs to one of both, though neither of them is looked for.
        for role in (R, R_BACK):
            ontology = ((below(A, every(role, either(B, C))), below(A, some(role, ANY)), (("is", 0, A),)), 1)
            for question in (("is", 0, B), ("is", 0, every(role, B)), ("below", A, some(role, B)), ("never",)):
                self.check(ontology, (0, 1, 2), question)

    def test_what_fails_of_an_individual_fails_for_all_that_it_is_said_to_have(self):
        for role, first, second in ((R, 0, 1), (R_BACK, 1, 0), (S, 0, 1)):
            ontology = (((("has", 0, 0, 1),), (("is", first, every(role, either(B, C))),), (("under", R, S),)), 2)
            for question in (("is", second, B), ("is", second, C), ("has", 1, 0, 0), ("is", second, both(B, C))):
                self.check(ontology, (0, 1, 2), question)
            self.assertIsNone(counter_model(ontology, (0, 1, 2), ("is", second, either(C, B))))

    def test_inverse_roles(self):
        ontology = ((below(A, some(R, B)), below(B, some(R_BACK, C)), below(C, every(R, A)), below(C, neg(A)),
                     (("under", R, S), ("under", S, R_BACK))), 0)
        for members in subsets(5):
            question = ("below", A, C)
            if follows(ontology, members, question):
                self.assertIsNone(counter_model(ontology, members, question))
            else:
                self.check(ontology, members, question)

    def test_no_axioms_at_all(self):
        self.check(((), 0), (), ("never",))
        self.check(((), 3), (), ("never",))
        self.check(((), 0), (), ("below", ANY, NONE))
        self.check(((), 1), (), ("has", 0, 3, 0))
        self.check(((), 2), (), ("is", 1, A))

    def test_axioms_that_are_not_in_the_set_may_be_broken(self):
        ontology = ((below(ANY, A), below(A, NONE)), 1)
        for places in ((), (0,), (1,)):
            self.check(ontology, places, ("never",))
        self.assertIsNone(counter_model(ontology, (0, 1), ("never",)))

    def test_none_exactly_where_the_question_follows(self):
        for seed in range(120):
            ontology, question = Maker(seed).pair(1 + seed % 4)
            for members in subsets(len(ontology[0])):
                if follows(ontology, members, question):
                    self.assertIsNone(counter_model(ontology, members, question), (seed, members))
                else:
                    self.check(ontology, members, question)

    def test_with_many_axioms(self):
        for seed in range(200, 230):
            maker = Maker(seed)
            ontology, question = maker.ontology(7), maker.question()
            found = condition(ontology, question)
            for members in subsets(7)[::5]:
                if holds(found, members):
                    self.assertIsNone(counter_model(ontology, members, question), (seed, members))
                else:
                    self.check(ontology, members, question)

    def test_the_bounds(self):
        ontology, start = counter()
        everything = tuple(range(10))
        self.assertIsNone(counter_model(ontology, everything, ("below", start, NONE)))
        model = self.check(ontology, tuple(range(6)) + (8, 9), ("below", start, NONE))
        self.assertGreaterEqual(len(model[0]), 8)
        for seed in range(6):
            ontology, question = crowded(seed, seed % 5)
            self.assertEqual(len(atoms(ontology, ())), 12)
            found = condition(ontology, question)
            for places in (everything, everything[::2], everything[3:]):
                if holds(found, places):
                    self.assertIsNone(counter_model(ontology, places, question))
                else:
                    self.check(ontology, places, question)


if __name__ == "__main__":
    unittest.main()
