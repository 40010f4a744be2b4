import unittest

from ontoworks.derivations import answers_question, check, is_certain, is_right, named_axioms, role_behind
from tests.faults import kinds
from tests.plain import (
    A, ANY, B, C, D, FAMILY, NONE, R, R_BACK, S, S_BACK, T, T_BACK, THING, below, both, either, neg, some)

PAIR = ("pair", R)
# The axioms that the lines below use: one or two of each kind of part.
AXIOMS = (
    below(A, B),
    (("under", R, S), ("under", S, T_BACK)),
    (("is", 1, either(A, B)),),
    (("has", 0, 0, 1), ("below", C, both(A, neg(D)))),
    (("has", 1, 1, 1),),
    (("under", R_BACK, T),),
)
ONTOLOGY = (AXIOMS, 2)
ALL = (0, 1, 2, 3, 4, 5)


def rows(place, *concepts):
    """Return the rows of some concepts at one place."""
    return tuple((place, concept) for concept in concepts)


class IsCertainTest(unittest.TestCase):
    def check(self, has, concept, holds, fails):
        """Compare whether a concept is certain to hold, and to fail, at the place 0 where some concepts hold."""
        self.assertIs(is_certain(rows(0, *has), 0, concept, True), holds, (has, concept, True))
        self.assertIs(is_certain(rows(0, *has), 0, concept, False), fails, (has, concept, False))

    def test_the_example_of_the_document(self):
        self.assertIs(is_certain(((0, both(A, neg(B))),), 0, B, False), True)

    def test_nothing_known(self):
        for concept in (A, some(R, A), both(A, A), neg(A), neg(both(A, ANY)), either(A, neg(A)), both(A, neg(A))):
            self.check((), concept, False, False)
        self.check((), ANY, True, False)
        self.check((), neg(ANY), False, True)
        self.check((), neg(neg(ANY)), True, False)
        self.check((), both(ANY, ANY), True, False)
        self.check((), both(A, neg(ANY)), False, True)
        self.check((), both(neg(ANY), A), False, True)
        self.check((), some(R, ANY), False, False)
        self.check((), some(R, NONE), False, False)

    def test_what_the_line_has_is_known(self):
        for concept in (A, some(R, A), neg(A), both(A, B), neg(both(A, B)), either(A, B), neg(neg(A))):
            self.check((concept,), concept, True, False)
            self.check((neg(concept),), concept, False, True)
            self.check((concept,), neg(concept), False, True)
            self.check((neg(concept),), neg(concept), True, False)
        self.check((A,), B, False, False)
        self.check((some(R, A),), some(R, both(A, A)), False, False)
        self.check((some(R, A),), some(R_BACK, A), False, False)

    def test_what_not_makes_known(self):
        self.check((neg(neg(A)),), A, True, False)
        self.check((neg(neg(neg(A))),), A, False, True)
        self.check((neg(neg(neg(neg(A)))),), neg(A), False, True)

    def test_what_and_makes_known(self):
        self.check((both(A, B),), A, True, False)
        self.check((both(A, B),), B, True, False)
        self.check((both(A, both(neg(B), C)),), C, True, False)
        self.check((both(A, both(neg(B), C)),), B, False, True)
        self.check((neg(neg(both(A, B))),), B, True, False)
        # If `and` fails, it is not known which of both fails.
        self.check((neg(both(A, B)),), A, False, False)
        self.check((neg(both(A, B)),), B, False, False)
        self.check((neg(both(A, A)),), A, False, False)
        # What fails although it is composed is known as a whole alone.
        self.check((neg(both(A, B)),), both(B, A), False, False)

    def test_any(self):
        self.check((neg(ANY),), ANY, True, True)
        self.check((ANY,), ANY, True, False)
        self.check((both(A, neg(ANY)),), ANY, True, True)

    def test_composed_concepts(self):
        self.check((A, B), both(A, B), True, False)
        self.check((A, B), both(B, both(A, A)), True, False)
        self.check((A,), both(A, B), False, False)
        self.check((neg(A),), both(A, B), False, True)
        self.check((neg(B),), both(A, B), False, True)
        self.check((neg(B),), both(both(A, B), C), False, True)
        self.check((A,), neg(neg(A)), True, False)
        self.check((A,), either(A, B), True, False)
        self.check((B,), either(A, B), True, False)
        self.check((neg(A),), either(A, B), False, False)
        self.check((neg(A), neg(B)), either(A, B), False, True)
        self.check((A, neg(B)), both(neg(B), either(C, A)), True, False)
        self.check((neg(A), neg(B)), both(A, B), False, True)
        # One operand that fails is enough, also if nothing is known of the other one.
        self.check((neg(neg(neg(B))),), both(C, B), False, True)

    def test_what_is_looked_for_behind_a_role_makes_nothing_certain(self):
        self.check((some(R, A),), A, False, False)
        self.check((some(R, A),), some(R, ANY), False, False)
        self.check((some(R, both(A, B)),), some(R, A), False, False)

    def test_what_holds_and_fails(self):
        self.check((A, neg(A)), A, True, True)
        self.check((A, neg(A)), neg(A), True, True)
        self.check((A, neg(A)), both(A, A), True, True)
        self.check((both(A, B), neg(both(A, B))), both(A, B), True, True)

    def test_other_places_say_nothing(self):
        has = ((0, A), (1, B), (63, neg(C)))
        for place, concept, holds in ((0, A, True), (1, B, True), (63, C, False)):
            for other in (0, 1, 2, 63):
                self.assertIs(is_certain(has, other, concept, holds), other == place)
        self.assertIs(is_certain(has, 2, ANY, True), True)
        self.assertIs(is_certain((), 5, neg(ANY), False), True)


class RoleBehindTest(unittest.TestCase):
    def check(self, role, steps, wanted, places=ALL):
        self.assertEqual(role_behind(ONTOLOGY, places, role, steps), wanted, (role, steps))

    def test_no_steps(self):
        for role in (R, R_BACK, T, (3, True)):
            self.check(role, (), role)
            self.check(role, (), role, places=())

    def test_steps(self):
        self.check(R, ((1, 0, False),), S)
        self.check(S, ((1, 1, False),), T_BACK)
        self.check(R, ((1, 0, False), (1, 1, False)), T_BACK)
        self.check(R_BACK, ((5, 0, False),), T)

    def test_inverse_steps(self):
        self.check(R_BACK, ((1, 0, True),), S_BACK)
        self.check(S_BACK, ((1, 1, True),), T)
        self.check(R, ((5, 0, True),), T_BACK)
        self.check(R_BACK, ((1, 0, True), (1, 1, True)), T)

    def test_steps_that_begin_elsewhere(self):
        for role, steps in ((S, ((1, 0, False),)), (R_BACK, ((1, 0, False),)), (R, ((1, 0, True),)),
                            (R, ((1, 1, False),)), (R, ((1, 1, False), (1, 0, False))),
                            (R, ((1, 0, False), (1, 1, True))), (R, ((1, 0, False), (1, 0, False))),
                            (R, ((5, 0, False),)), (S, ((1, 0, False), (1, 1, False)))):
            self.check(role, steps, None)

    def test_what_is_not_there(self):
        self.check(R, ((1, 0, False),), None, places=(0, 2, 3, 4, 5))
        self.check(R, ((1, 0, False),), S, places=(1,))
        self.check(R, ((1, 2, False),), None)
        self.check(R, ((1, 300, False),), None)
        self.check(R, ((6, 0, False),), None)
        self.check(R, ((6, 0, False),), None, places=(1, 6))
        self.check(R, ((300, 0, True),), None)
        self.check(R, ((1, 0, False), (6, 0, False)), None)

    def test_parts_of_other_kinds(self):
        for axiom, part in ((0, 0), (2, 0), (3, 0), (3, 1), (4, 0)):
            self.check(R, ((axiom, part, False),), None)


class IsRightTest(unittest.TestCase):
    def check(self, wanted, shape, has, reason, before=(), places=ALL):
        self.assertIs(is_right(ONTOLOGY, places, before, (shape, has, reason)), wanted, (shape, has, reason))

    def test_clash(self):
        for shape in (THING, FAMILY, PAIR):
            self.check(True, shape, rows(0, A, neg(A)), ("clash", 0, A))
            self.check(True, shape, rows(5, both(A, B), neg(B)), ("clash", 5, B))
            self.check(True, shape, rows(0, A, B, neg(both(A, B))), ("clash", 0, both(A, B)))
            self.check(True, shape, rows(0, neg(ANY)), ("clash", 0, ANY))
            self.check(False, shape, rows(0, A), ("clash", 0, A))
            self.check(False, shape, rows(0, neg(A)), ("clash", 0, A))
            self.check(False, shape, rows(0, A, neg(A)), ("clash", 1, A))
            self.check(False, shape, rows(0, A, neg(A)), ("clash", 0, B))
            self.check(False, shape, ((0, A), (1, neg(A))), ("clash", 0, A))
            self.check(False, shape, (), ("clash", 0, ANY))

    def test_axiom(self):
        for shape in (THING, FAMILY, PAIR):
            self.check(True, shape, rows(0, A, neg(B)), ("axiom", 0, 0, 0))
            self.check(True, shape, rows(7, both(A, neg(B))), ("axiom", 7, 0, 0))
            self.check(True, shape, rows(0, C, D), ("axiom", 0, 3, 1))
            self.check(True, shape, rows(1, C, neg(A)), ("axiom", 1, 3, 1))
            self.check(False, shape, rows(0, A), ("axiom", 0, 0, 0))
            self.check(False, shape, rows(0, neg(B)), ("axiom", 0, 0, 0))
            self.check(False, shape, rows(0, A, B), ("axiom", 0, 0, 0))
            self.check(False, shape, rows(0, A, neg(B)), ("axiom", 1, 0, 0))
            self.check(False, shape, ((0, A), (1, neg(B))), ("axiom", 0, 0, 0))
            self.check(False, shape, rows(0, A, neg(B)), ("axiom", 0, 3, 1))

    def test_axioms_and_parts_that_are_not_there(self):
        has = rows(0, A, neg(B), C, D)
        self.check(False, THING, has, ("axiom", 0, 0, 0), places=(1, 2, 3))
        self.check(True, THING, has, ("axiom", 0, 0, 0), places=(0,))
        self.check(False, THING, has, ("axiom", 0, 0, 1))
        self.check(False, THING, has, ("axiom", 0, 6, 0))
        self.check(False, THING, has, ("axiom", 0, 6, 0), places=(0, 6))
        self.check(False, THING, has, ("axiom", 0, 300, 300))
        for axiom, part in ((1, 0), (2, 0), (3, 0), (4, 0)):
            self.check(False, THING, has, ("axiom", 0, axiom, part))

    def test_line(self):
        before = ((THING, ((0, A), (3, neg(B))), ("axiom", 0, 0, 0)), (FAMILY, rows(0, A), ("clash", 0, A)),
                  (PAIR, rows(0, A), ("clash", 0, A)), (THING, (), ("clash", 0, A)))
        for shape in (THING, FAMILY, PAIR):
            self.check(True, shape, rows(0, A, neg(B)), ("line", 0, 0), before)
            self.check(True, shape, rows(4, both(A, neg(B)), C), ("line", 4, 0), before)
            self.check(False, shape, rows(4, A, neg(B)), ("line", 0, 0), before)
            self.check(False, shape, ((0, A), (3, neg(B))), ("line", 0, 0), before)
            self.check(False, shape, rows(0, A), ("line", 0, 0), before)
            self.check(False, shape, rows(0, A), ("line", 0, 1), before)
            self.check(False, shape, rows(0, A), ("line", 0, 2), before)
            self.check(True, shape, (), ("line", 0, 3), before)
            self.check(True, shape, rows(1, A), ("line", 2, 3), before)
            self.check(False, shape, rows(0, A, neg(B)), ("line", 0, 4), before)
            self.check(False, shape, rows(0, A, neg(B)), ("line", 0, 0), ())

    def test_split(self):
        for shape in (THING, FAMILY, PAIR):
            before = ((shape, rows(0, A, B), ("clash", 0, A)), (shape, ((0, neg(A)), (2, C)), ("clash", 0, A)))
            has = ((0, B), (2, C))
            self.check(True, shape, has, ("split", 0, A, 0, 1), before)
            self.check(True, shape, has + ((4, D),), ("split", 0, A, 0, 1), before)
            self.check(True, shape, ((0, both(B, D)), (2, C)), ("split", 0, A, 0, 1), before)
            self.check(False, shape, has, ("split", 0, A, 1, 0), before)
            self.check(False, shape, has, ("split", 1, A, 0, 1), before)
            self.check(False, shape, has, ("split", 0, B, 0, 1), before)
            self.check(False, shape, has[:1], ("split", 0, A, 0, 1), before)
            self.check(False, shape, has[1:], ("split", 0, A, 0, 1), before)
            self.check(False, shape, has, ("split", 0, A, 0, 0), before)
            self.check(False, shape, has, ("split", 0, A, 1, 1), before)
            self.check(False, shape, has, ("split", 0, A, 0, 2), before)
            self.check(False, shape, has, ("split", 0, A, 2, 1), before)
            self.check(False, shape, has, ("split", 0, A, 0, 1), before[:1])

    def test_split_where_one_case_is_not_needed(self):
        before = ((THING, rows(0, B), ("clash", 0, A)),)
        self.check(True, THING, rows(0, B), ("split", 0, A, 0, 0), before)
        self.check(True, THING, (), ("split", 0, B, 0, 0), ((THING, (), ("clash", 0, A)),))

    def test_split_needs_lines_of_the_same_shape(self):
        for shape in (THING, FAMILY, PAIR, ("pair", R_BACK)):
            for other in (THING, FAMILY, PAIR, ("pair", R_BACK)):
                first = (shape, rows(0, A), ("clash", 0, A))
                second = (other, rows(0, neg(A)), ("clash", 0, A))
                self.check(shape == other, shape, (), ("split", 0, A, 0, 1), (first, second))
                self.check(shape == other, other, (), ("split", 0, A, 0, 1), (first, second))

    def test_split_by_a_composed_concept(self):
        before = ((THING, rows(0, A), ("clash", 0, A)), (THING, rows(0, neg(both(A, B)), C), ("clash", 0, A)))
        self.check(True, THING, rows(0, C), ("split", 0, both(A, B), 0, 1), before)
        self.check(False, THING, rows(0, C), ("split", 0, both(A, D), 0, 1), before)
        self.check(True, THING, rows(0, C), ("split", 0, neg(both(A, B)), 1, 0), before)

    def test_need(self):
        before = ((PAIR, ((0, C), (1, A), (5, either(A, D))), ("clash", 0, A)),
                  (PAIR, rows(0, C), ("clash", 0, A)), (PAIR, rows(1, B), ("clash", 0, A)),
                  (THING, rows(0, C), ("clash", 0, A)), (("pair", R_BACK), rows(0, C), ("clash", 0, A)))
        for shape in (THING, FAMILY, PAIR):
            has = rows(2, C, some(R, A))
            self.check(True, shape, has, ("need", 2, R, A, 0), before)
            self.check(True, shape, has, ("need", 2, R, A, 1), before)
            self.check(True, shape, rows(0, both(C, some(R, both(A, B)))), ("need", 0, R, both(A, B), 0), before)
            self.check(True, shape, rows(0, some(R, B)), ("need", 0, R, B, 2), before)
            self.check(False, shape, has, ("need", 1, R, A, 0), before)
            self.check(False, shape, has[1:], ("need", 2, R, A, 0), before)
            self.check(False, shape, has[:1], ("need", 2, R, A, 0), before)
            self.check(False, shape, rows(2, C, neg(some(R, A))), ("need", 2, R, A, 0), before)
            self.check(False, shape, has, ("need", 2, R, B, 0), before)
            self.check(False, shape, has, ("need", 2, R_BACK, A, 0), before)
            self.check(False, shape, rows(2, C, some(R_BACK, A)), ("need", 2, R_BACK, A, 0), before)
            self.check(False, shape, has, ("need", 2, R, A, 2), before)
            self.check(False, shape, has, ("need", 2, R, A, 3), before)
            self.check(False, shape, has, ("need", 2, R, A, 4), before)
            self.check(False, shape, has, ("need", 2, R, A, 5), before)
            self.check(True, shape, rows(2, C, some(R_BACK, A)), ("need", 2, R_BACK, A, 4), before)

    def test_need_knows_of_the_other_thing_only_what_is_looked_for(self):
        before = ((PAIR, rows(1, A, B), ("clash", 0, A)), (PAIR, rows(1, both(A, ANY)), ("clash", 0, A)),
                  (PAIR, rows(0, A), ("clash", 0, A)))
        self.check(False, THING, ((0, some(R, A)), (0, B), (1, B)), ("need", 0, R, A, 0), before)
        self.check(True, THING, rows(0, some(R, both(B, A))), ("need", 0, R, both(B, A), 0), before)
        self.check(True, THING, rows(0, some(R, A)), ("need", 0, R, A, 1), before)
        # What the thing at the place 0 has to have, the other one cannot bring.
        self.check(False, THING, rows(0, some(R, A)), ("need", 0, R, A, 2), before)

    def test_role(self):
        self.check(True, PAIR, ((0, neg(some(R, A))), (1, A)), ("role", (), False, A))
        self.check(True, PAIR, ((0, neg(some(R, B))), (1, both(A, B))), ("role", (), False, B))
        self.check(True, PAIR, ((0, neg(some(S, A))), (1, A)), ("role", ((1, 0, False),), False, A))
        self.check(True, PAIR, ((0, neg(some(T_BACK, A))), (1, A)), ("role", ((1, 0, False), (1, 1, False)), False, A))
        self.check(False, PAIR, ((0, neg(some(R, A))), (1, B)), ("role", (), False, A))
        self.check(False, PAIR, ((0, some(R, A)), (1, A)), ("role", (), False, A))
        self.check(False, PAIR, ((0, neg(some(R, A))), (0, A)), ("role", (), False, A))
        self.check(False, PAIR, ((1, neg(some(R, A))), (1, A)), ("role", (), False, A))
        self.check(False, PAIR, ((1, neg(some(R, A))), (0, A)), ("role", (), False, A))
        self.check(False, PAIR, ((0, neg(some(R_BACK, A))), (1, A)), ("role", (), False, A))
        self.check(False, PAIR, ((0, neg(some(R, A))), (1, A)), ("role", (), False, B))
        self.check(False, PAIR, ((0, neg(some(R, A))), (1, A)), ("role", (), True, A))
        self.check(False, PAIR, ((0, neg(some(S, A))), (1, A)), ("role", (), False, A))
        self.check(False, PAIR, ((0, neg(some(R, A))), (1, A)), ("role", ((1, 0, False),), False, A))
        self.check(False, PAIR, ((0, neg(some(S, A))), (1, A)), ("role", ((1, 0, True),), False, A))
        self.check(True, PAIR, ((0, neg(some(R, ANY))),), ("role", (), False, ANY))

    def test_role_backwards(self):
        self.check(True, PAIR, ((0, A), (1, neg(some(R_BACK, A)))), ("role", (), True, A))
        self.check(True, PAIR, ((0, A), (1, neg(some(S_BACK, A)))), ("role", ((1, 0, False),), True, A))
        self.check(True, ("pair", R_BACK), ((0, A), (1, neg(some(S, A)))), ("role", ((1, 0, True),), True, A))
        self.check(True, PAIR, ((0, A), (1, neg(some(T, A)))), ("role", ((1, 0, False), (1, 1, False)), True, A))
        self.check(False, PAIR, ((0, A), (1, neg(some(R, A)))), ("role", (), True, A))
        self.check(False, PAIR, ((0, A), (1, neg(some(R_BACK, A)))), ("role", (), False, A))
        self.check(False, PAIR, ((1, A), (0, neg(some(R_BACK, A)))), ("role", (), True, A))
        self.check(False, PAIR, ((0, B), (1, neg(some(R_BACK, A)))), ("role", (), True, A))
        self.check(False, PAIR, ((0, A), (1, some(R_BACK, A))), ("role", (), True, A))
        self.check(False, PAIR, ((0, A), (1, neg(some(R_BACK, A)))), ("role", ((1, 1, False),), True, A))
        self.check(False, PAIR, ((0, A), (1, neg(some(S_BACK, A)))), ("role", ((9, 0, False),), True, A))

    def test_role_needs_a_pair_and_right_steps(self):
        has = ((0, neg(some(S, A))), (1, A))
        for shape in (THING, FAMILY):
            self.check(False, shape, has, ("role", ((1, 0, False),), False, A))
            self.check(False, shape, ((0, neg(some(R, A))), (1, A)), ("role", (), False, A))
        self.check(False, PAIR, has, ("role", ((1, 0, False),), False, A), places=(0, 2, 3, 4, 5))
        self.check(False, PAIR, has, ("role", ((0, 0, False),), False, A))
        self.check(False, PAIR, has, ("role", ((1, 2, False),), False, A))
        self.check(False, PAIR, has, ("role", ((9, 0, False),), False, A))
        self.check(False, ("pair", R_BACK), has, ("role", ((1, 0, False),), False, A))

    def test_member(self):
        has = rows(1, neg(A), neg(B))
        self.check(True, FAMILY, has, ("member", 2, 0))
        self.check(True, FAMILY, rows(1, neg(either(A, B))), ("member", 2, 0))
        self.check(False, THING, has, ("member", 2, 0))
        self.check(False, PAIR, has, ("member", 2, 0))
        self.check(False, FAMILY, has[:1], ("member", 2, 0))
        self.check(False, FAMILY, rows(0, neg(A), neg(B)), ("member", 2, 0))
        self.check(False, FAMILY, rows(1, A), ("member", 2, 0))
        self.check(False, FAMILY, has, ("member", 2, 1))
        self.check(False, FAMILY, has, ("member", 6, 0))
        self.check(False, FAMILY, has, ("member", 2, 0), places=(0, 1, 3, 4, 5))
        for axiom, part in ((0, 0), (1, 0), (3, 0), (3, 1)):
            self.check(False, FAMILY, has, ("member", axiom, part))

    def test_link(self):
        self.check(True, FAMILY, ((0, neg(some(R, A))), (1, A)), ("link", 3, 0, (), False, A))
        self.check(True, FAMILY, ((0, neg(some(S, A))), (1, A)), ("link", 3, 0, ((1, 0, False),), False, A))
        self.check(True, FAMILY, ((0, A), (1, neg(some(R_BACK, A)))), ("link", 3, 0, (), True, A))
        self.check(True, FAMILY, ((0, A), (1, neg(some(S_BACK, A)))), ("link", 3, 0, ((1, 0, False),), True, A))
        self.check(True, FAMILY, rows(1, neg(some(S, A)), A), ("link", 4, 0, (), False, A))
        self.check(True, FAMILY, rows(1, neg(some(S_BACK, A)), A), ("link", 4, 0, (), True, A))
        self.check(False, FAMILY, ((1, neg(some(R, A))), (0, A)), ("link", 3, 0, (), False, A))
        self.check(False, FAMILY, ((0, neg(some(R, A))), (1, B)), ("link", 3, 0, (), False, A))
        self.check(False, FAMILY, ((0, some(R, A)), (1, A)), ("link", 3, 0, (), False, A))
        self.check(False, FAMILY, ((0, neg(some(R, A))), (1, A)), ("link", 3, 0, (), True, A))
        self.check(False, FAMILY, ((0, neg(some(R_BACK, A))), (1, A)), ("link", 3, 0, (), True, A))
        self.check(False, FAMILY, ((0, neg(some(S, A))), (1, A)), ("link", 3, 0, (), False, A))
        self.check(False, FAMILY, ((0, neg(some(R, A))), (1, A)), ("link", 3, 0, ((1, 0, False),), False, A))
        self.check(False, FAMILY, ((0, neg(some(R, A))), (1, A)), ("link", 3, 0, (), False, B))
        self.check(False, FAMILY, ((0, neg(some(S, A))), (0, A)), ("link", 4, 0, (), False, A))

    def test_link_needs_a_family_and_what_is_there(self):
        has = ((0, neg(some(R, A))), (1, A), (1, neg(some(S, A))))
        self.check(False, THING, has, ("link", 3, 0, (), False, A))
        self.check(False, PAIR, has, ("link", 3, 0, (), False, A))
        self.check(False, FAMILY, has, ("link", 3, 0, (), False, A), places=(0, 1, 2, 4, 5))
        self.check(False, FAMILY, has, ("link", 3, 1, (), False, A))
        self.check(False, FAMILY, has, ("link", 3, 2, (), False, A))
        self.check(False, FAMILY, has, ("link", 7, 0, (), False, A))
        self.check(False, FAMILY, has, ("link", 2, 0, (), False, A))
        for backwards, has in ((False, ((0, neg(some(S, A))), (1, A))), (True, ((0, A), (1, neg(some(S_BACK, A)))))):
            self.check(False, FAMILY, has, ("link", 3, 0, ((1, 0, False),), backwards, A), places=(3,))
            self.check(True, FAMILY, has, ("link", 3, 0, ((1, 0, False),), backwards, A), places=(1, 3))

    def test_values(self):
        self.assertEqual(kinds(is_right(ONTOLOGY, ALL, (), (THING, (), ("clash", 0, A)))), {bool})


class AnswersQuestionTest(unittest.TestCase):
    def check(self, wanted, question, shape, has):
        self.assertIs(answers_question(question, (shape, has, ("clash", 0, A))), wanted, (question, shape, has))

    def test_lines_without_rows_answer_all_questions(self):
        for question in (("never",), ("below", A, B), ("is", 0, A), ("has", 0, 0, 1)):
            for has in ((), rows(0, ANY), rows(5, ANY, neg(NONE))):
                self.check(True, question, THING, has)
                self.check(True, question, FAMILY, has)
                self.check(False, question, PAIR, has)
            self.check(False, question, THING, rows(0, C))
            self.check(False, question, FAMILY, rows(0, C))

    def test_never(self):
        for shape in (THING, FAMILY):
            self.check(False, ("never",), shape, rows(0, A))
            self.check(False, ("never",), shape, rows(0, either(A, neg(A))))

    def test_below(self):
        question = ("below", both(A, B), either(C, D))
        self.check(True, question, THING, rows(0, A, neg(C)))
        self.check(True, question, THING, ((0, A), (1, B), (63, neg(D))))
        self.check(True, question, THING, rows(3, both(B, neg(C))))
        self.check(True, question, THING, rows(0, both(A, B), neg(either(C, D))))
        self.check(False, question, THING, rows(0, neg(A)))
        self.check(False, question, THING, rows(0, C))
        self.check(False, question, THING, rows(0, A, D))
        self.check(False, question, FAMILY, rows(0, A))
        self.check(False, question, FAMILY, rows(0, neg(C)))
        self.check(False, question, PAIR, rows(0, A, neg(C)))

    def test_is(self):
        question = ("is", 1, either(A, B))
        for concept in (neg(A), neg(B), neg(either(A, B)), both(neg(A), ANY)):
            self.check(True, question, FAMILY, rows(1, concept))
            self.check(False, question, FAMILY, rows(0, concept))
            self.check(False, question, FAMILY, rows(2, concept))
            self.check(True, question, THING, rows(1, concept))
            self.check(True, question, THING, rows(0, concept))
            self.check(False, question, PAIR, rows(1, concept))
        for shape in (THING, FAMILY):
            self.check(False, question, shape, rows(1, A))
            self.check(False, question, shape, rows(1, neg(A), neg(C)))
        self.check(False, question, FAMILY, ((1, neg(A)), (0, neg(B))))
        self.check(True, question, THING, ((1, neg(A)), (0, neg(B))))

    def test_has(self):
        for shape in (THING, FAMILY):
            self.check(False, ("has", 0, 0, 1), shape, rows(0, neg(some(R, ANY))))
            self.check(False, ("has", 0, 0, 1), shape, ((0, A),))


LINE = (THING, rows(0, A, neg(B)), ("axiom", 0, 0, 0))
WRONG = (THING, rows(0, A), ("axiom", 0, 0, 0))


class CheckTest(unittest.TestCase):
    def check(self, wanted, question, derivation, places=ALL):
        self.assertEqual(check(ONTOLOGY, places, question, derivation), wanted, (question, derivation))

    def test_the_examples_of_the_document(self):
        line = (THING, rows(0, A, neg(B)), ("axiom", 0, 0, 0))
        for places, wanted in (((0,), None), ((), 0)):
            self.assertEqual(check(((below(A, B),), 0), places, ("below", A, B), ("lines", (line,))), wanted)

    def test_no_lines(self):
        for question in (("never",), ("below", A, A), ("below", A, ANY), ("is", 0, ANY), ("has", 0, 0, 1)):
            self.check(0, question, ("lines", ()))

    def test_the_number_of_the_first_wrong_line(self):
        question = ("below", A, B)
        self.check(None, question, ("lines", (LINE, LINE, LINE)))
        self.check(0, question, ("lines", (WRONG, LINE)))
        self.check(1, question, ("lines", (LINE, WRONG, LINE)))
        self.check(2, question, ("lines", (LINE, LINE, WRONG, WRONG)))
        self.check(1, question, ("lines", (LINE, (THING, rows(0, A, neg(B)), ("line", 0, 1)))))
        self.check(0, question, ("lines", ((THING, rows(0, A, neg(B)), ("line", 0, 1)), LINE)))
        self.check(None, question, ("lines", (LINE, (THING, rows(0, A, neg(B)), ("line", 0, 0)))))

    def test_all_right_but_not_the_question(self):
        self.check(1, ("below", B, A), ("lines", (LINE,)))
        self.check(2, ("below", A, C), ("lines", (LINE, LINE)))
        # The last line counts.
        other = (THING, rows(0, C, D), ("axiom", 0, 3, 1))
        self.check(2, ("below", A, B), ("lines", (LINE, other)))
        self.check(None, ("below", A, B), ("lines", (other, LINE)))
        self.check(2, ("never",), ("lines", (other, LINE)))

    def test_a_derivation_with_several_shapes(self):
        ontology = ((below(A, some(R, B)), below(B, NONE)), 0)
        lines = ((("pair", R), ((1, B),), ("axiom", 1, 1, 0)),
                 (THING, ((0, some(R, B)),), ("need", 0, R, B, 0)),
                 (THING, ((0, A), (0, neg(some(R, B)))), ("axiom", 0, 0, 0)),
                 (THING, ((0, A),), ("split", 0, some(R, B), 1, 2)))
        question = ("below", A, NONE)
        self.assertIsNone(check(ontology, (0, 1), question, ("lines", lines)))
        for places, wanted in (((0,), 0), ((1,), 2), ((), 0)):
            self.assertEqual(check(ontology, places, question, ("lines", lines)), wanted)
        self.assertEqual(check(ontology, (0, 1), question, ("lines", lines[:3])), 3)
        self.assertEqual(check(ontology, (0, 1), question, ("lines", lines[1:])), 0)
        self.assertEqual(named_axioms(("lines", lines)), (0, 1))

    def test_said(self):
        self.check(None, ("has", 0, 0, 1), ("said", 3, 0, False, ()))
        self.check(None, ("has", 0, 1, 1), ("said", 3, 0, False, ((1, 0, False),)))
        self.check(None, ("has", 1, 1, 1), ("said", 4, 0, False, ()))
        self.check(0, ("has", 1, 0, 0), ("said", 3, 0, False, ()))
        self.check(0, ("has", 0, 1, 1), ("said", 3, 0, False, ()))
        self.check(0, ("has", 0, 0, 1), ("said", 3, 0, False, ((1, 0, False),)))
        self.check(0, ("has", 0, 0, 0), ("said", 3, 0, False, ()))
        self.check(0, ("has", 1, 0, 1), ("said", 3, 0, False, ()))

    def test_said_the_other_way_round(self):
        # What a has behind r, has a behind the inverse; and r is under the inverse of t.
        self.check(None, ("has", 1, 2, 0), ("said", 3, 0, True, ((1, 0, False), (1, 1, False))))
        self.check(None, ("has", 1, 2, 0), ("said", 3, 0, True, ((5, 0, True),)))
        self.check(None, ("has", 1, 2, 1), ("said", 4, 0, True, ((1, 1, False),)))
        self.check(0, ("has", 0, 2, 1), ("said", 3, 0, True, ((5, 0, True),)))
        self.check(0, ("has", 1, 2, 0), ("said", 3, 0, False, ((5, 0, True),)))
        self.check(0, ("has", 1, 0, 0), ("said", 3, 0, True, ()))
        self.check(0, ("has", 1, 1, 0), ("said", 3, 0, True, ((5, 0, True),)))

    def test_said_of_the_same_individual_in_one_direction_alone(self):
        self.check(0, ("has", 1, 1, 1), ("said", 4, 0, True, ()))
        self.check(0, ("has", 1, 2, 1), ("said", 4, 0, False, ((1, 1, False),)))

    def test_said_with_what_is_not_there(self):
        question = ("has", 0, 0, 1)
        self.check(0, question, ("said", 3, 0, False, ()), places=(0, 1, 2, 4, 5))
        self.check(None, question, ("said", 3, 0, False, ()), places=(3,))
        self.check(0, ("has", 0, 1, 1), ("said", 3, 0, False, ((1, 0, False),)), places=(3,))
        self.check(0, question, ("said", 3, 1, False, ()))
        self.check(0, question, ("said", 3, 2, False, ()))
        self.check(0, question, ("said", 6, 0, False, ()))
        self.check(0, question, ("said", 6, 0, False, ()), places=(3, 6))
        self.check(0, question, ("said", 0, 0, False, ()))

    def test_said_answers_no_other_question(self):
        for question in (("never",), ("below", A, A), ("is", 0, some(R, ANY)), ("is", 0, ANY)):
            self.check(0, question, ("said", 3, 0, False, ()))

    def test_more_than_may_be_passed(self):
        long = ("lines", (LINE,) * 400)
        self.check(None, ("below", A, B), long)
        wide = (THING, tuple((0, some(R, ("name", number))) for number in range(100)) + LINE[1], LINE[2])
        self.check(1, ("below", A, B), ("lines", (wide,)))
        loop = ((("under", R, R),), (("has", 0, 0, 1),))
        self.assertIsNone(check((loop, 2), (0, 1), ("has", 0, 0, 1), ("said", 1, 0, False, ((0, 0, False),) * 50)))


class NamedAxiomsTest(unittest.TestCase):
    def test_each_reason(self):
        for reason, wanted in (
                (("clash", 4, A), ()), (("axiom", 4, 7, 1), (7,)), (("line", 4, 3), ()), (("split", 4, A, 3, 2), ()),
                (("need", 4, R, A, 3), ()), (("role", ((6, 1, False), (2, 4, True)), False, A), (2, 6)),
                (("role", (), True, A), ()), (("member", 5, 1), (5,)), (("link", 9, 1, (), False, A), (9,)),
                (("link", 9, 1, ((3, 0, True), (11, 2, False)), False, A), (3, 9, 11))):
            self.assertEqual(named_axioms(("lines", ((THING, (), reason),))), wanted, reason)

    def test_all_lines_without_duplicates(self):
        lines = tuple((FAMILY, (), reason) for reason in (
            ("axiom", 0, 300, 0), ("member", 2, 0), ("axiom", 0, 2, 1), ("link", 2, 0, ((0, 0, True),), True, A)))
        self.assertEqual(named_axioms(("lines", lines)), (0, 2, 300))
        self.assertEqual(named_axioms(("lines", ())), ())

    def test_what_is_said(self):
        self.assertEqual(named_axioms(("said", 3, 0, False, ())), (3,))
        self.assertEqual(named_axioms(("said", 3, 0, True, ((5, 0, True), (1, 0, False), (3, 1, True)))), (1, 3, 5))

    def test_values(self):
        self.assertEqual(kinds(named_axioms(("said", 3, 0, False, ((5, 0, True),)))), {tuple, int})


if __name__ == "__main__":
    unittest.main()
