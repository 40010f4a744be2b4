import unittest
from itertools import permutations

from ontoworks.atoms import atoms
from ontoworks.diagrams import both as both_say
from ontoworks.diagrams import either as either_says
from ontoworks.diagrams import holds, negation, renumbered, variable
from ontoworks.search import condition, conditions, survives
from tests.faults import kinds
from tests.large import counter, crowded
from tests.plain import (
    A, ANY, B, C, D, NONE, R, R_BACK, S, S_BACK, Maker, Plain, below, both, either, every, follows, neg, some, subsets)

NEVER = ((), 0)
ALWAYS = ((), 1)


def all_of(*numbers):
    """Return the condition that all of some numbers are in the set."""
    found = ALWAYS
    for number in numbers:
        found = both_say(found, variable(number))
    return found


def any_of(*conditions_of_cases):
    """Return the condition that one of some conditions says yes."""
    found = NEVER
    for case in conditions_of_cases:
        found = either_says(found, case)
    return found


class ConditionTest(unittest.TestCase):
    def check(self, axioms, individuals, question, wanted):
        self.assertEqual(condition((tuple(axioms), individuals), question), wanted, question)

    def test_the_example_of_the_document(self):
        self.check((below(A, some(R, B)), below(B, NONE)), 0, ("below", A, NONE), (((1, 0, 1), (0, 0, 2)), 3))

    def test_the_example_of_the_first_points(self):
        person, parent, mother = A, B, C
        having = both(person, some(R, person))
        axioms = ((("below", parent, having), ("below", having, parent)), below(mother, parent), (("is", 0, mother),),
                  (("is", 1, person),))
        self.check(axioms, 2, ("is", 0, some(R, person)), all_of(0, 1, 2))
        self.check(axioms, 2, ("has", 0, 0, 1), NEVER)

    def test_no_axioms(self):
        for individuals in (0, 2):
            for question, wanted in (
                    (("never",), NEVER), (("below", A, A), ALWAYS), (("below", A, B), NEVER),
                    (("below", A, ANY), ALWAYS), (("below", ANY, A), NEVER), (("below", NONE, A), ALWAYS),
                    (("below", A, NONE), NEVER),
                    (("below", ANY, NONE), NEVER), (("below", both(A, B), A), ALWAYS),
                    (("below", neg(neg(A)), A), ALWAYS), (("below", A, neg(A)), NEVER),
                    (("below", ANY, either(A, neg(A))), ALWAYS), (("below", some(R, A), A), NEVER),
                    (("below", some(R, both(A, B)), some(R, A)), ALWAYS), (("below", some(R, NONE), NONE), ALWAYS),
                    (("below", some(R, A), some(R, both(A, B))), NEVER), (("below", some(R, A), some(R, ANY)), ALWAYS),
                    (("below", both(some(R, A), some(R, B)), some(R, both(A, B))), NEVER),
                    (("below", both(some(R, A), every(R, B)), some(R, both(A, B))), ALWAYS),
                    (("below", A, every(R, some(R_BACK, A))), ALWAYS), (("below", A, every(R, some(R, A))), NEVER),
                    (("below", some(R, every(R_BACK, A)), A), ALWAYS)):
                self.check((), individuals, question, wanted)
        self.check((), 2, ("is", 1, A), NEVER)
        self.check((), 2, ("is", 1, ANY), ALWAYS)
        self.check((), 2, ("is", 1, either(A, neg(A))), ALWAYS)
        self.check((), 2, ("has", 0, 0, 1), NEVER)
        self.check((), 2, ("has", 0, 0, 0), NEVER)

    def test_never_without_individuals(self):
        self.check((below(A, NONE),), 0, ("never",), NEVER)
        self.check((below(ANY, A), below(A, NONE)), 0, ("never",), all_of(0, 1))
        self.check((below(ANY, some(R, A)), below(A, B), below(A, neg(B)), below(ANY, NONE)), 0, ("never",),
                   any_of(all_of(3), all_of(0, 1, 2)))

    def test_never_with_individuals(self):
        axioms = (below(A, NONE), (("is", 1, A),), (("is", 0, neg(B)),), (("has", 0, 0, 1),),
                  below(ANY, every(R_BACK, B)))
        self.check(axioms, 2, ("never",), any_of(all_of(0, 1), all_of(2, 3, 4)))

    def test_every_question_follows_where_nothing_holds_together(self):
        axioms = ((("is", 0, A),), below(A, NONE), below(B, C))
        never = all_of(0, 1)
        for question, own in ((("below", B, C), all_of(2)), (("below", C, B), NEVER), (("is", 0, B), NEVER),
                              (("is", 1, C), NEVER), (("has", 1, 0, 1), NEVER), (("below", A, D), all_of(1)),
                              (("never",), NEVER)):
            self.check(axioms, 2, question, any_of(never, own))

    def test_below(self):
        self.check((below(A, B), below(B, C), below(A, C)), 0, ("below", A, C), any_of(all_of(0, 1), all_of(2)))
        self.check((below(A, either(B, C)), below(B, D), below(C, D)), 0, ("below", A, D), all_of(0, 1, 2))
        self.check((below(A, some(R, B)), below(some(R, C), D), below(B, C)), 0, ("below", A, D), all_of(0, 1, 2))
        self.check((below(A, every(R, B)), below(B, NONE)), 0, ("below", both(A, some(R, C)), NONE), all_of(0, 1))
        self.check((below(A, every(R, B)), below(B, NONE)), 0, ("below", A, NONE), NEVER)

    def test_below_with_inverse_roles(self):
        self.check((below(A, some(R, B)), below(B, every(R_BACK, C))), 0, ("below", A, C), all_of(0, 1))
        self.check((below(A, some(R_BACK, B)), below(B, every(R, C))), 0, ("below", A, C), all_of(0, 1))
        self.check((below(A, some(R, B)), below(some(R_BACK, A), C), below(both(B, C), NONE)), 0, ("below", A, NONE),
                   all_of(0, 1, 2))

    def test_below_with_roles_under_roles(self):
        under = (("under", R, S),)
        self.check((under, below(some(S, B), C)), 0, ("below", some(R, B), C), all_of(0, 1))
        self.check((under,), 0, ("below", some(R_BACK, B), some(S_BACK, B)), all_of(0))
        self.check((under,), 0, ("below", some(S, B), some(R, B)), NEVER)
        self.check((under, (("under", S, R_BACK),)), 0, ("below", some(R, B), some(R_BACK, B)), all_of(0, 1))
        self.check(((("under", R_BACK, S),),), 0, ("below", some(R, B), some(S_BACK, B)), all_of(0))

    def test_is_questions_that_only_families_decide(self):
        has = (("has", 0, 0, 1),)
        self.check((has, below(A, every(R, B)), (("is", 0, A),)), 2, ("is", 1, B), all_of(0, 1, 2))
        self.check((has, below(A, every(R_BACK, B)), (("is", 1, A),)), 2, ("is", 0, B), all_of(0, 1, 2))
        self.check((has, (("is", 1, B),)), 2, ("is", 0, some(R, B)), all_of(0, 1))
        self.check((has, (("is", 0, B),)), 2, ("is", 1, some(R_BACK, B)), all_of(0, 1))
        self.check((has, (("under", R, S_BACK),), (("is", 0, B),)), 2, ("is", 1, some(S, B)), all_of(0, 1, 2))
        self.check((has, (("has", 1, 0, 2),), (("has", 0, 0, 2),), (("is", 0, A),), (("is", 2, neg(A)),)), 3,
                   ("is", 0, some(R, either(both(A, some(R, neg(A))), neg(A)))),
                   any_of(all_of(0, 1, 4), all_of(2, 4)))

    def test_is_questions_of_two_cases(self):
        # Whatever thing 1 is, thing 0 has a thing of A before one that is not of A.
        axioms = ((("has", 0, 0, 1),), (("has", 1, 0, 2),), (("is", 0, A),), (("is", 2, neg(A)),))
        self.check(axioms, 3, ("is", 1, either(both(A, some(R, neg(A))), both(neg(A), some(R_BACK, A)))),
                   all_of(0, 1, 2, 3))

    def test_is_questions_about_an_individual_that_is_not_named(self):
        self.check((below(ANY, A), (("is", 0, B),)), 2, ("is", 1, A), all_of(0))
        self.check((below(ANY, A), (("is", 0, B),)), 2, ("is", 1, B), NEVER)

    def test_individuals_may_be_the_same_thing(self):
        self.check(((("is", 0, A),), (("is", 1, neg(A)),)), 2, ("never",), NEVER)
        self.check(((("has", 0, 0, 1),), (("is", 0, every(R, A)),)), 2, ("is", 0, A), NEVER)
        self.check(((("has", 0, 0, 0),), (("is", 0, every(R, A)),)), 2, ("is", 0, A), all_of(0, 1))

    def test_has(self):
        axioms = ((("has", 0, 0, 1),), (("under", R, S),), (("under", S, R_BACK),), (("is", 0, A),), below(A, NONE))
        never = all_of(3, 4)
        self.check(axioms, 2, ("has", 0, 0, 1), any_of(never, all_of(0)))
        self.check(axioms, 2, ("has", 0, 1, 1), any_of(never, all_of(0, 1)))
        self.check(axioms, 2, ("has", 1, 0, 0), any_of(never, all_of(0, 1, 2)))
        self.check(axioms, 2, ("has", 1, 1, 0), any_of(never, all_of(0, 1, 2)))
        self.check(axioms, 2, ("has", 0, 0, 0), never)
        self.check(axioms, 2, ("has", 0, 2, 1), never)

    def test_has_by_inverse_roles(self):
        axioms = ((("has", 0, 0, 1),), (("under", R_BACK, S),), (("has", 1, 1, 1),), (("under", S_BACK, R),))
        self.check(axioms, 2, ("has", 1, 1, 0), all_of(0, 1))
        self.check(axioms, 2, ("has", 0, 1, 1), NEVER)
        self.check(axioms, 2, ("has", 1, 0, 1), all_of(2, 3))
        self.check(axioms, 2, ("has", 1, 0, 0), NEVER)

    def test_what_needs_itself_without_end(self):
        axioms = (below(A, some(R, A)), below(some(R_BACK, A), B), (("is", 0, A),), below(B, every(R, C)))
        self.check(axioms, 1, ("is", 0, some(R, some(R, B))), all_of(0, 1, 2))
        self.check(axioms, 1, ("is", 0, some(R, some(R, C))), all_of(0, 1, 2, 3))
        self.check(axioms, 1, ("never",), NEVER)
        # Whatever there is needs something of A, and so does that; but nothing of A may stand behind something of A.
        chain = (below(ANY, some(R, A)), below(A, neg(some(R_BACK, A))))
        self.check(chain, 0, ("never",), all_of(0, 1))

    def test_parts_of_one_axiom_come_together(self):
        axioms = ((("below", A, B), ("below", B, C)), (("below", C, D), ("is", 0, A)))
        self.check(axioms, 1, ("below", A, D), all_of(0, 1))
        self.check(axioms, 1, ("is", 0, D), all_of(0, 1))
        self.check(axioms, 1, ("below", B, C), all_of(0))

    def test_against_the_plain_search(self):
        for seed in range(120):
            ontology, question = Maker(seed).pair(1 + seed % 4)
            found = condition(ontology, question)
            for members in subsets(len(ontology[0])):
                self.assertIs(holds(found, members), follows(ontology, members, question), (seed, members))

    def test_one_more_axiom_never_undoes_a_yes(self):
        for seed in range(60):
            maker = Maker(seed)
            ontology, question = maker.ontology(5), maker.question()
            found = condition(ontology, question)
            for members in subsets(5):
                if holds(found, members):
                    for more in range(5):
                        self.assertTrue(holds(found, tuple(sorted({*members, more}))))

    def test_axioms_in_another_order(self):
        for seed in range(25):
            maker = Maker(seed)
            (axioms, individuals), question = maker.ontology(4), maker.question()
            found = condition((axioms, individuals), question)
            for order in permutations(range(4)):
                moved = tuple(axioms[place] for place in order)
                # Axiom k of the first order stands at the place order.index(k) of the other one.
                wanted = renumbered(found, tuple(order.index(place) for place in range(4)))
                self.assertEqual(condition((moved, individuals), question), wanted)

    def test_values(self):
        self.assertEqual(kinds(condition(((below(A, B),), 0), ("below", A, B))), {tuple, int})


class ConditionsTest(unittest.TestCase):
    def test_no_questions(self):
        self.assertEqual(conditions(((below(A, B),), 0), ()), ())

    def test_the_same_as_one_by_one_in_every_order(self):
        for seed in range(25):
            maker = Maker(seed)
            ontology = maker.ontology(4)
            questions = [maker.question() for _ in range(3)]
            alone = {question: condition(ontology, question) for question in questions}
            for order in permutations(questions):
                self.assertEqual(conditions(ontology, order), tuple(alone[question] for question in order))

    def test_the_same_question_twice(self):
        ontology = ((below(A, some(R, B)), below(B, NONE)), 0)
        asked = ("below", A, NONE)
        self.assertEqual(conditions(ontology, (asked, ("never",), asked)), (all_of(0, 1), NEVER, all_of(0, 1)))

    def test_many_questions(self):
        ontology, start = counter()
        names = [("name", number) for number in range(5)] + [start]
        questions = tuple(("below", lower, upper) for lower in names for upper in names)
        found = conditions(ontology, questions)
        self.assertEqual(found, tuple(condition(ontology, question) for question in questions))


class SurvivesTest(unittest.TestCase):
    def survivors(self, ontology, members, questions=()):
        """Return the types that survive, a list."""
        count = len(atoms(ontology, questions))
        return [held for held in subsets(count) if survives(ontology, members, questions, held)]

    def test_types_that_are_removed_only_after_others(self):
        # The atoms: A, some B, B, some C, C. What has C goes first, then what has some C, B, some B and A in turn.
        ontology = ((below(A, some(R, B)), below(B, some(R, C)), below(C, NONE)), 0)
        for held in ((0,), (0, 1), (1,), (2,), (2, 3), (3,), (4,), (0, 1, 2, 3, 4)):
            self.assertIs(survives(ontology, (0, 1, 2), (), held), False, held)
        self.assertEqual(self.survivors(ontology, (0, 1, 2)), [()])
        self.assertIs(survives(ontology, (0, 1), (), (0, 1)), True)
        self.assertIs(survives(ontology, (0, 2), (), (0, 1)), True)
        self.assertIs(survives(ontology, (1, 2), (), (0, 1)), False)
        self.assertIs(survives(ontology, (1, 2), (), (0,)), True)

    def test_types_that_need_themselves(self):
        ontology = ((below(A, some(R, A)), below(ANY, A)), 0)
        self.assertEqual(self.survivors(ontology, (0, 1)), [(0, 1)])
        # A thing of A cannot be behind one that has not some A.
        self.assertEqual(self.survivors(ontology, (0,)), [(), (1,), (0, 1)])
        self.assertEqual(self.survivors(ontology, ()), [(), (0,), (1,), (0, 1)])

    def test_roles_with_their_inverses(self):
        # The atoms: A, some R B, B, some R_BACK A.
        ontology = ((below(A, some(R, B)), below(B, neg(some(R_BACK, A)))), 0)
        self.assertEqual(self.survivors(ontology, (0, 1)), [(), (1,), (2,), (1, 2)])
        # What is behind the inverse of r may have something else of B behind r.
        self.assertIs(survives(ontology, (0,), (), (3,)), True)
        self.assertIs(survives(ontology, (0,), (), (2, 3)), True)
        # A thing of B has nothing of A behind the inverse of r, unless that has some B.
        self.assertIs(survives(ontology, (), (), (2, 3)), True)
        self.assertIs(survives(ontology, (), (), (0, 1)), True)
        self.assertIs(survives(ontology, (1,), (), (3,)), True)
        self.assertIs(survives(ontology, (1,), (), (2, 3)), False)
        self.assertIs(survives(ontology, (0,), (), (0, 1)), True)
        self.assertIs(survives(ontology, (1,), (), (0, 1)), False)
        self.assertIs(survives(ontology, (1,), (), (0,)), True)

    def test_the_atoms_of_the_questions_come_behind(self):
        ontology = ((below(A, B),), 0)
        questions = (("below", some(R, NONE), C), ("never",), ("is", 0, B))
        self.assertEqual(self.survivors(ontology, (0,), questions),
                         [held for held in subsets(4) if (0 not in held or 1 in held) and 2 not in held])
        self.assertIs(survives(ontology, (), questions, (0, 3)), True)

    def test_no_atoms(self):
        self.assertIs(survives(((below(ANY, ANY),), 0), (0,), (), ()), True)
        self.assertIs(survives(((below(ANY, NONE),), 0), (0,), (), ()), False)
        self.assertIs(survives(((below(ANY, NONE),), 0), (), (), ()), True)

    def test_individuals_do_not_matter(self):
        ontology = ((below(A, B), (("is", 0, A),), (("is", 0, neg(B)),), (("has", 0, 0, 1),)), 2)
        self.assertEqual(self.survivors(ontology, (0, 1, 2, 3)), [(), (1,), (0, 1)])

    def test_against_the_plain_search(self):
        for seed in range(120):
            ontology, question = Maker(seed, individuals=seed % 2).pair(1 + seed % 4)
            for members in subsets(len(ontology[0]))[-3:]:
                plain = Plain(ontology, members, (question,))
                for held in subsets(len(plain.atoms)):
                    self.assertIs(survives(ontology, members, (question,), held), held in plain.types,
                                  (seed, members, held))


class BoundsTest(unittest.TestCase):
    def test_a_counter(self):
        ontology, start = counter()
        self.assertEqual(len(ontology[0]), 10)
        self.assertEqual(len(atoms(ontology, ())), 12)
        self.assertEqual(condition(ontology, ("below", start, NONE)),
                         any_of(all_of(0, 1, 2, 3, 4, 5, 6), all_of(0, 1, 2, 3, 4, 5, 7)))

    def test_crowded_ontologies(self):
        for seed in range(12):
            ontology, question = crowded(seed, seed % 5)
            self.assertEqual((len(ontology[0]), len(atoms(ontology, ()))), (10, 12))
            self.assertEqual(len(atoms(((), ontology[1]), (question,))), 8)
            found = condition(ontology, question)
            for node in found[0]:
                self.assertIn(node[0], range(10))
            self.assertEqual(both_say(condition(ontology, ("never",)), negation(found)), NEVER)

    def test_somewhat_more_than_the_bounds(self):
        names = [("name", number) for number in range(13)]
        axioms = tuple(below(lower, either(upper, NONE)) for lower, upper in zip(names, names[1:]))
        self.assertEqual(condition((axioms, 6), ("is", 5, either(neg(names[0]), names[12]))), all_of(*range(12)))


if __name__ == "__main__":
    unittest.main()
