import unittest

from ontoworks.diagrams import holds
from ontoworks.groups import group, module
from ontoworks.search import conditions
from tests.faults import kinds
from tests.plain import A, ANY, B, C, D, NONE, R, R_BACK, S, S_BACK, T, Maker, below, both, every, neg, some, subsets

E = ("name", 4)


class GroupTest(unittest.TestCase):
    def check(self, axioms, *wanted):
        """Compare the groups of axioms with those that are wanted."""
        for places in wanted:
            for place in places:
                self.assertEqual(group(tuple(axioms), place), places, place)

    def test_linked_directly(self):
        self.check((below(A, B), below(B, C), below(D, E)), (0, 1), (2,))
        self.check((below(A, A),), (0,))

    def test_linked_over_others(self):
        self.check((below(A, B), below(C, D), below(B, C), below(E, E)), (0, 1, 2), (3,))
        self.check((below(A, A), below(E, E), below(D, E), below(C, D), below(B, C), below(A, B)), (0, 1, 2, 3, 4, 5))

    def test_roles_link(self):
        self.check((below(A, some(R, B)), below(C, some(R_BACK, D))), (0, 1))
        self.check((below(A, some(R, B)), below(C, some(S, D))), (0,), (1,))
        self.check((below(A, some(R, B)), (("under", S, R_BACK),), (("has", 0, 1, 1),), (("has", 0, 2, 1),)),
                   (0, 1, 2), (3,))
        self.check(((("has", 0, 0, 1),), (("has", 1, 0, 1),)), (0, 1))
        self.check(((("under", R, S),), (("under", T, T),)), (0,), (1,))

    def test_a_concept_and_a_role_with_the_same_number_do_not_link(self):
        self.check((below(A, A), (("has", 0, 0, 0),), below(ANY, some(R, ANY))), (0,), (1, 2))

    def test_individuals_do_not_link(self):
        self.check(((("is", 0, A),), (("is", 0, B),), (("has", 0, 0, 1),)), (0,), (1,), (2,))
        self.check(((("is", 0, A),), (("is", 1, A),)), (0, 1))

    def test_names_in_whatever_way(self):
        self.check((below(ANY, neg(both(A, some(R, neg(some(S, B)))))), (("is", 0, every(T, B)),), below(C, neg(C)),
                    (("under", (3, True), T),)), (0, 1, 3), (2,))
        self.check(((("below", A, A), ("under", R, S)), (("has", 0, 1, 0), ("is", 0, B)), below(B, ANY)), (0, 1, 2))

    def test_axioms_without_names(self):
        self.check((below(ANY, NONE), below(A, ANY), (("is", 0, ANY),), below(A, B)), (0, 2), (1, 3))
        self.check((below(ANY, ANY),), (0,))

    def test_values(self):
        self.assertEqual(kinds(group((below(A, B), below(B, A)), 1)), {tuple, int})


class ModuleTest(unittest.TestCase):
    AXIOMS = (below(A, B), below(C, some(S, D)), (("is", 0, B),), below(ANY, NONE), (("has", 0, 0, 1),),
              (("under", R, T),))

    def test_the_example_of_the_document(self):
        axioms = (below(A, B), below(C, D), (("is", 0, B),))
        self.assertEqual(module(axioms, ("below", A, ANY)), (0, 2))

    def test_names_of_questions(self):
        for question, wanted in (
                (("below", A, ANY), (0, 2)), (("below", ANY, B), (0, 2)), (("below", A, D), (0, 1, 2)),
                (("is", 1, neg(B)), (0, 2)), (("is", 0, some(S_BACK, ANY)), (1,)), (("has", 0, 1, 1), (1,)),
                (("has", 0, 2, 1), (4, 5)), (("has", 0, 0, 1), (4, 5)), (("below", some(R, A), ANY), (0, 2, 4, 5)),
                (("has", 0, 3, 1), ()), (("below", E, E), ())):
            self.assertEqual(module(self.AXIOMS, question), wanted, question)

    def test_questions_without_names(self):
        for question in (("never",), ("below", ANY, NONE), ("is", 0, ANY), ("is", 0, NONE)):
            self.assertEqual(module(self.AXIOMS, question), (), question)

    def test_no_axioms(self):
        self.assertEqual(module((), ("below", A, B)), ())

    def test_what_follows_follows_from_the_module(self):
        never = ("never",)
        for seed in range(80):
            maker = Maker(seed)
            ontology, question = maker.ontology(5), maker.question()
            axioms, individuals = ontology
            # With other numbers half of the axioms have nothing to do with the others.
            axioms = tuple(axiom if place % 2 else renamed(axiom) for place, axiom in enumerate(axioms))
            found, none = conditions((axioms, individuals), (question, never))
            inside = module(axioms, question)
            for members in subsets(5):
                rest = tuple(number for number in members if number in inside)
                self.assertEqual(holds(found, members), holds(found, rest) or holds(none, members), (seed, members))

    def test_values(self):
        self.assertEqual(kinds(module(self.AXIOMS, ("below", A, B))), {tuple, int})


def renamed(tree):
    """Return a tree with other concepts and roles."""
    if isinstance(tree, tuple) and tree[:1] == ("name",):
        return ("name", tree[1] + 4)
    if isinstance(tree, tuple) and len(tree) == 2 and isinstance(tree[1], bool):
        return (tree[0] + 2, tree[1])
    if isinstance(tree, tuple) and tree[:1] == ("has",):
        return ("has", tree[1], tree[2] + 2, tree[3])
    return tuple(renamed(part) for part in tree) if isinstance(tree, tuple) else tree


if __name__ == "__main__":
    unittest.main()
