import unittest
from itertools import product

from ontoworks.atoms import above, atoms, can_have, value
from tests.faults import kinds

ANY = ("any",)
A = ("name", 0)
B = ("name", 1)
C = ("name", 2)
R = (0, False)
R_BACK = (0, True)
S = (1, False)
S_BACK = (1, True)
T = (2, False)
T_BACK = (2, True)
ROLES = (R, R_BACK, S, S_BACK, T, T_BACK)


def subsets(count):
    """Return all sets of the numbers below a count."""
    return [tuple(number for number in range(count) if bits >> number & 1) for bits in range(1 << count)]


def under(*pairs):
    """Return an ontology with an axiom `under` for each pair of roles."""
    return (tuple((("under", lower, upper),) for lower, upper in pairs), 0)


def atoms_of(*concepts):
    """Return the atoms of an axiom that says that some individual belongs to each concept."""
    return atoms(((tuple(("is", 0, concept) for concept in concepts),), 1), ())


class AtomsTest(unittest.TestCase):
    def test_the_example_of_the_document(self):
        axiom = (("below", C, ("not", ("some", R_BACK, C))),)
        self.assertEqual(atoms(((axiom,), 0), (("never",),)), (C, ("some", R_BACK, C)))

    def test_atoms_of_each_concept(self):
        some = ("some", R, ("and", A, ("not", B)))
        for concept, wanted in (
                (ANY, ()), (A, (A,)), (("not", A), (A,)), (("not", ANY), ()), (("not", ("not", B)), (B,)),
                (("and", B, A), (B, A)), (("and", A, A), (A,)), (("and", ANY, A), (A,)),
                (("and", ("and", C, A), ("and", B, A)), (C, A, B)),
                (("some", R, ANY), (("some", R, ANY),)), (("some", R, A), (("some", R, A), A)),
                (some, (some, A, B)), (("not", some), (some, A, B)),
                (("some", S, some), (("some", S, some), some, A, B)),
                (("and", B, some), (B, some, A)),
                (("and", some, ("some", S, B)), (some, A, B, ("some", S, B)))):
            self.assertEqual(atoms_of(concept), wanted, concept)

    def test_parts_and_axioms_and_questions_in_their_order(self):
        ontology = (((("below", C, B), ("below", B, ("name", 7))), (("is", 0, A),)), 1)
        questions = (("below", ("name", 6), ("name", 5)), ("is", 0, ("name", 3)))
        self.assertEqual(atoms(ontology, questions),
                         (C, B, ("name", 7), A, ("name", 6), ("name", 5), ("name", 3)))
        self.assertEqual(atoms(ontology, questions[::-1])[4:], (("name", 3), ("name", 6), ("name", 5)))

    def test_each_atom_at_its_first_place_alone(self):
        some = ("some", R, A)
        ontology = (((("below", A, B),), (("below", B, some),), (("is", 0, A),)), 1)
        self.assertEqual(atoms(ontology, ()), (A, B, some))
        self.assertEqual(atoms(ontology, (("below", C, A), ("is", 0, some), ("below", C, B))), (A, B, some, C))

    def test_atoms_are_the_same_only_if_they_are_equal(self):
        concepts = (("some", R, A), ("some", R_BACK, A), ("some", S, A), ("some", R, ("not", A)),
                    ("some", R, ("not", ("not", A))), ("some", R, ("and", A, A)))
        self.assertEqual(set(atoms_of(*concepts)), {*concepts, A})
        self.assertEqual(len(atoms_of(*concepts)), 7)

    def test_parts_and_questions_without_atoms(self):
        ontology = (((("under", R, S), ("under", S, R)), (("has", 0, 1, 0),)), 2)
        self.assertEqual(atoms(ontology, (("never",), ("has", 1, 0, 0))), ())
        self.assertEqual(atoms(((), 0), ()), ())
        self.assertEqual(atoms(((), 0), (("never",), ("below", A, ANY), ("has", 0, 0, 0))), (A,))

    def test_more_atoms_than_an_ontology_may_have(self):
        chain = A
        wanted = (A,)
        for number in range(30):
            chain = ("some", (number % 4, False), chain)
            wanted = (chain,) + wanted
        self.assertEqual(atoms_of(chain), wanted)

    def test_values(self):
        found = atoms_of(("some", R, A))
        self.assertEqual(kinds(found), {tuple, str, int, bool})


class ValueTest(unittest.TestCase):
    def check(self, concept, says):
        """Compare a concept with what a function says of the truth values of A, B and `some`, for all types."""
        for all_atoms in ((A, B, SOME_A), (SOME_A, B, A), (C, B, SOME_A, A)):
            for held in subsets(len(all_atoms)):
                truth = [all_atoms.index(atom) in held for atom in (A, B, SOME_A)]
                self.assertIs(value(all_atoms, held, concept), says(*truth), (concept, all_atoms, held))

    def test_each_form(self):
        self.check(ANY, lambda a, b, s: True)
        self.check(A, lambda a, b, s: a)
        self.check(B, lambda a, b, s: b)
        self.check(SOME_A, lambda a, b, s: s)
        self.check(("not", ANY), lambda a, b, s: False)
        self.check(("not", A), lambda a, b, s: not a)
        self.check(("not", SOME_A), lambda a, b, s: not s)
        self.check(("and", A, B), lambda a, b, s: a and b)
        self.check(("and", ANY, B), lambda a, b, s: b)
        self.check(("and", B, ("not", ANY)), lambda a, b, s: False)

    def test_forms_within_forms(self):
        self.check(("not", ("not", B)), lambda a, b, s: b)
        self.check(("not", ("and", ("not", A), ("not", SOME_A))), lambda a, b, s: a or s)
        self.check(("and", ("not", ("and", A, B)), SOME_A), lambda a, b, s: not (a and b) and s)
        self.check(("and", A, ("not", A)), lambda a, b, s: False)

    def test_an_atom_that_is_looked_for_holds_by_itself(self):
        # What stands inside of `some` says nothing about the type.
        never = ("some", R, ("not", ANY))
        self.assertIs(value((never,), (0,), never), True)
        self.assertIs(value((never,), (), never), False)

    def test_no_atoms(self):
        self.assertIs(value((), (), ANY), True)
        self.assertIs(value((), (), ("not", ANY)), False)


SOME_A = ("some", R, A)


class AboveTest(unittest.TestCase):
    def test_the_example_of_the_document(self):
        self.assertEqual(above(under((R, S_BACK)), (0,), R_BACK), (R_BACK, S))

    def test_a_role_is_under_itself(self):
        for role in ROLES:
            self.assertEqual(above(((), 0), (), role), (role,))
            self.assertEqual(above(under((R, R), (S_BACK, S_BACK)), (0, 1), role), (role,))

    def test_directly_under_and_the_inverses(self):
        ontology = under((R, S))
        self.assertEqual(above(ontology, (0,), R), (R, S))
        self.assertEqual(above(ontology, (0,), R_BACK), (R_BACK, S_BACK))
        self.assertEqual(above(ontology, (0,), S), (S,))
        self.assertEqual(above(ontology, (0,), S_BACK), (S_BACK,))
        ontology = under((R_BACK, S))
        self.assertEqual(above(ontology, (0,), R), (R, S_BACK))
        self.assertEqual(above(ontology, (0,), R_BACK), (R_BACK, S))
        ontology = under((R_BACK, S_BACK))
        self.assertEqual(above(ontology, (0,), R), (R, S))
        self.assertEqual(above(ontology, (0,), R_BACK), (R_BACK, S_BACK))

    def test_a_role_under_its_own_inverse(self):
        for pair in ((R, R_BACK), (R_BACK, R)):
            self.assertEqual(above(under(pair), (0,), R), (R, R_BACK))
            self.assertEqual(above(under(pair), (0,), R_BACK), (R, R_BACK))

    def test_a_chain(self):
        for ontology in (under((R, S), (S, T)), under((S, T), (R, S)), under((S_BACK, T_BACK), (R, S)),
                         under((R, S), (S_BACK, T_BACK))):
            self.assertEqual(above(ontology, (0, 1), R), (R, S, T))
            self.assertEqual(above(ontology, (0, 1), S), (S, T))
            self.assertEqual(above(ontology, (0, 1), T), (T,))
            self.assertEqual(above(ontology, (0, 1), R_BACK), (R_BACK, S_BACK, T_BACK))

    def test_a_ring(self):
        ontology = under((R, S), (S, T), (T, R))
        for role in (R, S, T):
            self.assertEqual(above(ontology, (0, 1, 2), role), (R, S, T))
        for role in (R_BACK, S_BACK, T_BACK):
            self.assertEqual(above(ontology, (0, 1, 2), role), (R_BACK, S_BACK, T_BACK))
        twisted = under((R, S), (S, T), (T, R_BACK))
        for role in ROLES:
            self.assertEqual(above(twisted, (0, 1, 2), role), tuple(sorted(ROLES)))

    def test_a_set_that_leaves_axioms_out(self):
        ontology = under((R, S), (S, T), (T, R))
        self.assertEqual(above(ontology, (), R), (R,))
        self.assertEqual(above(ontology, (0,), R), (R, S))
        self.assertEqual(above(ontology, (1,), R), (R,))
        self.assertEqual(above(ontology, (0, 2), R), (R, S))
        self.assertEqual(above(ontology, (0, 2), T), (R, S, T))
        self.assertEqual(above(ontology, (0, 1), S), (S, T))

    def test_two_parts_of_one_axiom_and_parts_of_other_kinds(self):
        both = (("under", R, S_BACK), ("under", S_BACK, R))
        ontology = (((("below", A, B), ("below", B, A)), both, (("has", 0, 0, 0),), (("is", 0, A),)), 1)
        self.assertEqual(above(ontology, (0, 1, 2, 3), R), (R, S_BACK))
        self.assertEqual(above(ontology, (0, 1, 2, 3), S), (R_BACK, S))
        self.assertEqual(above(ontology, (0, 2, 3), R), (R,))

    def test_against_all_ways_from_role_to_role(self):
        pairs = [(R, S), (R_BACK, S), (S, R_BACK), (S, T_BACK), (T, R)]
        ontology = under(*pairs)
        for members in subsets(len(pairs)):
            reached = reachable([pairs[member] for member in members])
            for role in ROLES:
                wanted = tuple(sorted(upper for upper in ROLES if (role, upper) in reached))
                self.assertEqual(above(ontology, members, role), wanted)

    def test_values(self):
        found = above(under((R, S)), (0,), R)
        self.assertEqual(kinds(found), {tuple, int, bool})


def reachable(pairs):
    """Return the set of the pairs of roles of which the first is under the second."""
    reached = {(role, role) for role in ROLES}
    for lower, upper in pairs:
        reached |= {(lower, upper), ((lower[0], not lower[1]), (upper[0], not upper[1]))}
    for _ in ROLES:
        reached |= {(lower, upper) for lower, middle in reached for other, upper in reached if middle == other}
    return reached


class CanHaveTest(unittest.TestCase):
    def test_forwards(self):
        all_atoms = (SOME_A, A)
        empty = ((), 0)
        # A thing that has something behind r to which A belongs has to belong to the atom.
        self.assertIs(can_have(empty, (), all_atoms, R, (0,), (1,)), True)
        self.assertIs(can_have(empty, (), all_atoms, R, (), (1,)), False)
        self.assertIs(can_have(empty, (), all_atoms, R, (), ()), True)
        self.assertIs(can_have(empty, (), all_atoms, R, (0,), ()), True)
        self.assertIs(can_have(empty, (), all_atoms, R, (1,), ()), True)

    def test_backwards(self):
        all_atoms = (SOME_A, A)
        empty = ((), 0)
        self.assertIs(can_have(empty, (), all_atoms, R_BACK, (1,), (0,)), True)
        self.assertIs(can_have(empty, (), all_atoms, R_BACK, (1,), ()), False)
        self.assertIs(can_have(empty, (), all_atoms, R_BACK, (), ()), True)
        self.assertIs(can_have(empty, (), all_atoms, R_BACK, (), (1,)), True)

    def test_both_directions_of_one_atom(self):
        all_atoms = (SOME_A, A)
        same = under((R, R_BACK))
        self.assertIs(can_have(same, (0,), all_atoms, R, (0, 1), (0, 1)), True)
        self.assertIs(can_have(same, (0,), all_atoms, R, (0, 1), (1,)), False)
        self.assertIs(can_have(same, (0,), all_atoms, R, (1,), (0, 1)), False)
        self.assertIs(can_have(same, (0,), all_atoms, R, (1,), (0,)), True)
        self.assertIs(can_have(same, (0,), all_atoms, R, (0,), (1,)), True)
        self.assertIs(can_have(same, (), all_atoms, R, (0, 1), (1,)), True)

    def test_other_roles_say_nothing(self):
        all_atoms = (SOME_A, A)
        for role in (S, S_BACK):
            for first, second in product(subsets(2), repeat=2):
                self.assertIs(can_have(((), 0), (), all_atoms, role, first, second), True)

    def test_a_role_above(self):
        all_atoms = (A, SOME_A)
        ontology = under((S, R))
        self.assertIs(can_have(ontology, (0,), all_atoms, S, (), (0,)), False)
        self.assertIs(can_have(ontology, (), all_atoms, S, (), (0,)), True)
        self.assertIs(can_have(ontology, (0,), all_atoms, S, (1,), (0,)), True)
        self.assertIs(can_have(ontology, (0,), all_atoms, S_BACK, (0,), ()), False)
        # A role below it says nothing.
        self.assertIs(can_have(under((R, S)), (0,), all_atoms, S, (), (0,)), True)

    def test_what_is_looked_for_need_not_be_a_name(self):
        looked = ("and", ("not", A), ("some", S, ANY))
        atom = ("some", R, looked)
        all_atoms = (atom, A, ("some", S, ANY))
        self.assertIs(can_have(((), 0), (), all_atoms, R, (), (2,)), False)
        self.assertIs(can_have(((), 0), (), all_atoms, R, (), (1, 2)), True)
        self.assertIs(can_have(((), 0), (), all_atoms, R, (), ()), True)
        # Behind s everything belongs to `any`, so the thing before it has to have the atom.
        self.assertIs(can_have(((), 0), (), all_atoms, S, (), (1,)), False)
        self.assertIs(can_have(((), 0), (), all_atoms, S, (2,), (1,)), True)
        self.assertIs(can_have(((), 0), (), (A,), R, (), (0,)), True)
        self.assertIs(can_have(((), 0), (), (), R, (), ()), True)

    def test_against_the_words_of_the_document(self):
        all_atoms = (A, ("some", R, A), ("some", S_BACK, ("not", A)), ("some", R_BACK, ("some", R, A)))
        pairs = [(R, S), (S, R_BACK)]
        ontology = under(*pairs)
        for members in subsets(2):
            reached = reachable([pairs[member] for member in members])
            for role in (R, R_BACK, S, S_BACK):
                for first, second in product(subsets(4), repeat=2):
                    wanted = all(
                        ((role, (number, back)) not in reached or not holds_of(all_atoms, second, inner)
                         or place in first)
                        and ((role, (number, not back)) not in reached or not holds_of(all_atoms, first, inner)
                             or place in second)
                        for place, (_, (number, back), inner) in enumerate(all_atoms[1:], start=1))
                    self.assertIs(can_have(ontology, members, all_atoms, role, first, second), wanted,
                                  (members, role, first, second))

    def test_from_the_other_side_it_is_the_same(self):
        all_atoms = (A, ("some", R, A), ("some", S_BACK, ("not", A)))
        ontology = under((R, S_BACK))
        for (number, back), first, second in product((R, R_BACK, S, S_BACK), subsets(3), subsets(3)):
            self.assertIs(can_have(ontology, (0,), all_atoms, (number, back), first, second),
                          can_have(ontology, (0,), all_atoms, (number, not back), second, first))


def holds_of(all_atoms, held, concept):
    """Tell whether an atom, or `not` with an atom, holds of a type."""
    if concept[0] == "not":
        return all_atoms.index(concept[1]) not in held
    return all_atoms.index(concept) in held


if __name__ == "__main__":
    unittest.main()
