import random
import unittest

from ontoworks.atoms import atoms
from ontoworks.models import answers, breaks, members, part_fault, smaller
from tests.faults import kinds
from tests.plain import A, ANY, B, C, NONE, R, R_BACK, S, S_BACK, Maker, below, both, either, every, neg, some

# Thing 0 has the things 1 and 2 behind r, and itself behind s; thing 1 has thing 0 behind s.
MODEL = (((0,), (1,), (0, 1)), ((0, 0, 1), (0, 0, 2), (1, 0, 0), (1, 1, 0)), (2, 0, 0))
LINE = (tuple((number % 2,) for number in range(64)), tuple((0, number, number + 1) for number in range(63)), (63,))


def belongs(model, thing, concept):
    """Tell whether a thing belongs to a concept, in the words of point 23."""
    kind = concept[0]
    if kind == "any":
        return True
    if kind == "name":
        return concept[1] in model[0][thing]
    if kind == "not":
        return not belongs(model, thing, concept[1])
    if kind == "and":
        return belongs(model, thing, concept[1]) and belongs(model, thing, concept[2])
    return any(has(model, thing, concept[1], other) and belongs(model, other, concept[2])
               for other in range(len(model[0])))


def has(model, thing, role, other):
    """Tell whether a thing has another one behind a role."""
    number, back = role
    return ((number, other, thing) if back else (number, thing, other)) in model[1]


def fault(model, part):
    """Return the fault of a part, in the words of point 37."""
    things = range(len(model[0]))
    if part[0] == "below":
        wrong = [(x,) for x in things if belongs(model, x, part[1]) and not belongs(model, x, part[2])]
    elif part[0] == "under":
        wrong = [(x, y) for x in things for y in things
                 if has(model, x, part[1], y) and not has(model, x, part[2], y)]
    elif part[0] == "is":
        one = model[2][part[1]]
        wrong = [] if belongs(model, one, part[2]) else [(one,)]
    else:
        one, other = model[2][part[1]], model[2][part[3]]
        wrong = [] if has(model, one, (part[2], False), other) else [(one, other)]
    return wrong[0] if wrong else None


def any_model(seed, individuals):
    """Return some model with two concepts, two roles and at most five things."""
    chosen = random.Random(seed)
    count = chosen.randint(1, 5)
    things = tuple(tuple(name for name in range(3) if chosen.random() < 0.4) for _ in range(count))
    links = tuple((role, one, other) for role in range(2) for one in range(count) for other in range(count)
                  if chosen.random() < 0.25)
    return things, links, tuple(chosen.randrange(count) for _ in range(individuals))


class MembersTest(unittest.TestCase):
    def test_the_example_of_the_document(self):
        model = (((0,), (1,), (0,)), ((0, 0, 1),), ())
        self.assertEqual(members(model, some(R_BACK, A)), (1,))

    def test_each_form(self):
        for concept, wanted in (
                (ANY, (0, 1, 2)), (A, (0, 2)), (B, (1, 2)), (C, ()), (neg(A), (1,)), (NONE, ()), (neg(C), (0, 1, 2)),
                (both(A, B), (2,)), (both(A, neg(B)), (0,)), (neg(both(A, B)), (0, 1)),
                (some(R, A), (0,)), (some(R, ANY), (0,)), (some(R, C), ()), (some(R_BACK, ANY), (1, 2)),
                (some(R_BACK, A), (1, 2)), (some(R_BACK, B), ()), (some(S, A), (0, 1)), (some(S_BACK, ANY), (0,)),
                (some(S_BACK, neg(A)), (0,)), (some(S, some(R, B)), (0, 1)), (some(R_BACK, some(R, ANY)), (1, 2)),
                (every(R, B), (0, 1, 2)), (every(R, A), (1, 2)), (either(B, some(R, B)), (0, 1, 2)),
                (some((2, False), ANY), ()), (every((2, True), NONE), (0, 1, 2))):
            self.assertEqual(members(MODEL, concept), wanted, concept)

    def test_one_thing(self):
        self.assertEqual(members((((),), (), ()), ANY), (0,))
        self.assertEqual(members((((),), (), ()), A), ())
        self.assertEqual(members((((),), ((0, 0, 0),), ()), some(R_BACK, some(R, neg(A)))), (0,))

    def test_a_model_of_64_things(self):
        self.assertEqual(members(LINE, B), tuple(range(1, 64, 2)))
        self.assertEqual(members(LINE, some(R, A)), tuple(range(1, 63, 2)))
        self.assertEqual(members(LINE, neg(some(R_BACK, ANY))), (0,))
        self.assertEqual(members(LINE, some(R, neg(some(R, ANY)))), (62,))

    def test_more_things_than_may_be_passed(self):
        things = tuple((number % 3,) for number in range(200))
        self.assertEqual(members((things, ((0, 199, 0),), ()), some(R, A)), (199,))

    def test_against_the_words_of_the_document(self):
        for seed in range(150):
            maker = Maker(seed, individuals=2)
            model = any_model(seed, 2)
            concept = maker.concept(3)
            wanted = tuple(thing for thing in range(len(model[0])) if belongs(model, thing, concept))
            self.assertEqual(members(model, concept), wanted, (model, concept))

    def test_values(self):
        self.assertEqual(kinds(members(MODEL, A)), {tuple, int})


class PartFaultTest(unittest.TestCase):
    def test_below(self):
        self.assertIsNone(part_fault(MODEL, ("below", A, ANY)))
        self.assertIsNone(part_fault(MODEL, ("below", C, NONE)))
        self.assertEqual(part_fault(MODEL, ("below", A, B)), (0,))
        self.assertEqual(part_fault(MODEL, ("below", B, A)), (1,))
        self.assertEqual(part_fault(MODEL, ("below", B, C)), (1,))
        self.assertEqual(part_fault(MODEL, ("below", ANY, NONE)), (0,))

    def test_under_the_first_pair(self):
        self.assertIsNone(part_fault(MODEL, ("under", R, R)))
        self.assertIsNone(part_fault(MODEL, ("under", (2, False), R)))
        self.assertEqual(part_fault(MODEL, ("under", R, S)), (0, 1))
        self.assertEqual(part_fault(MODEL, ("under", S, R)), (0, 0))
        self.assertEqual(part_fault(MODEL, ("under", S, S_BACK)), (1, 0))
        self.assertEqual(part_fault(MODEL, ("under", S_BACK, S)), (0, 1))
        self.assertEqual(part_fault(MODEL, ("under", R_BACK, S)), (2, 0))
        # The first thing counts before the second one, whatever the order of the links of the inverse role.
        model = (((), (), ()), ((0, 0, 2), (0, 1, 0), (0, 2, 1)), ())
        self.assertEqual(part_fault(model, ("under", R_BACK, S)), (0, 1))
        self.assertEqual(part_fault(model, ("under", R, S)), (0, 2))
        model = (((), ()), ((0, 0, 0), (0, 0, 1), (1, 0, 0)), ())
        self.assertEqual(part_fault(model, ("under", R, S)), (0, 1))

    def test_is(self):
        self.assertIsNone(part_fault(MODEL, ("is", 0, both(A, B))))
        self.assertIsNone(part_fault(MODEL, ("is", 1, A)))
        self.assertEqual(part_fault(MODEL, ("is", 0, C)), (2,))
        self.assertEqual(part_fault(MODEL, ("is", 2, B)), (0,))

    def test_has(self):
        self.assertIsNone(part_fault(MODEL, ("has", 1, 0, 0)))
        self.assertEqual(part_fault(MODEL, ("has", 0, 0, 1)), (2, 0))
        self.assertEqual(part_fault(MODEL, ("has", 1, 1, 0)), (0, 2))

    def test_has_with_both_ends_the_same_thing(self):
        self.assertIsNone(part_fault(MODEL, ("has", 1, 1, 2)))
        self.assertIsNone(part_fault(MODEL, ("has", 2, 1, 2)))
        self.assertEqual(part_fault(MODEL, ("has", 1, 0, 2)), (0, 0))
        self.assertEqual(part_fault(MODEL, ("has", 0, 1, 0)), (2, 2))

    def test_a_model_of_64_things(self):
        self.assertEqual(part_fault(LINE, ("below", ANY, some(R, ANY))), (63,))
        self.assertEqual(part_fault(LINE, ("under", R, S)), (0, 1))
        self.assertEqual(part_fault(LINE, ("under", R_BACK, S)), (1, 0))
        self.assertEqual(part_fault(LINE, ("is", 0, A)), (63,))
        self.assertEqual(part_fault(LINE, ("has", 0, 0, 0)), (63, 63))

    def test_against_the_words_of_the_document(self):
        for seed in range(300):
            maker = Maker(seed, individuals=2)
            model = any_model(seed, 2)
            part = maker.part()
            self.assertEqual(part_fault(model, part), fault(model, part), (model, part))


class BreaksTest(unittest.TestCase):
    def test_the_example_of_the_document(self):
        model = (((0,), (1,), (0,)), ((0, 0, 1),), ())
        self.assertEqual(breaks(model, ((below(A, some(R, B)),), 0), (0,)), ((0, 0, (2,)),))

    def test_the_first_part_that_does_not_hold(self):
        axioms = ((("below", A, ANY), ("below", A, B), ("below", B, A)), (("below", C, A), ("is", 0, C)), below(A, A),
                  (("has", 1, 0, 2),), (("under", R, S),))
        self.assertEqual(breaks(MODEL, (axioms, 3), (0, 1, 2, 3, 4)),
                         ((0, 1, (0,)), (1, 1, (2,)), (3, 0, (0, 0)), (4, 0, (0, 1))))

    def test_a_set_that_leaves_axioms_out(self):
        ontology = ((below(A, B), below(B, A), below(A, A), below(A, C)), 3)
        self.assertEqual(breaks(MODEL, ontology, ()), ())
        self.assertEqual(breaks(MODEL, ontology, (1,)), ((1, 0, (1,)),))
        self.assertEqual(breaks(MODEL, ontology, (0, 2, 3)), ((0, 0, (0,)), (3, 0, (0,))))
        self.assertEqual(breaks(MODEL, ontology, (2,)), ())

    def test_against_the_words_of_the_document(self):
        for seed in range(100):
            ontology = Maker(seed, individuals=2).ontology(4)
            model = any_model(seed, 2)
            for places in ((0, 1, 2, 3), (1, 3), (2,)):
                wanted = []
                for place in places:
                    faults = [(number, fault(model, part)) for number, part in enumerate(ontology[0][place])]
                    wrong = [(place, number, things) for number, things in faults if things is not None]
                    wanted += wrong[:1]
                self.assertEqual(breaks(model, ontology, places), tuple(wanted))


class AnswersTest(unittest.TestCase):
    def test_each_kind_of_question(self):
        for question, wanted in (
                (("never",), False), (("below", A, ANY), True), (("below", A, B), False), (("is", 0, B), True),
                (("is", 1, B), False), (("has", 1, 0, 0), True), (("has", 0, 0, 1), False), (("has", 2, 1, 2), True),
                (("has", 2, 0, 2), False)):
            self.assertIs(answers(MODEL, question), wanted, question)


class SmallerTest(unittest.TestCase):
    def test_the_example_of_the_document(self):
        model = (((0,), (1,), (0,)), ((0, 0, 1), (0, 2, 1)), ())
        self.assertEqual(smaller(model, (A, B)), (((0,), (1,)), ((0, 0, 1),), ()))

    def test_no_concepts_make_all_other_things_one(self):
        self.assertEqual(smaller((((0,), (1,), ()), ((0, 0, 1), (1, 2, 2)), ()), ()),
                         (((0,),), ((0, 0, 0), (1, 0, 0)), ()))
        self.assertEqual(smaller((((0,), (1,), (), (2,)), ((0, 0, 1), (1, 2, 3)), (2, 1, 2)), ()),
                         (((0,), (1,), ()), ((0, 0, 1), (1, 2, 0)), (2, 1, 2)))

    def test_individuals_stay(self):
        model = (((0,), (0,), (0,), (0,)), ((0, 0, 3), (0, 1, 2), (0, 3, 3)), (1, 3))
        # The things 0 and 2 become one, though the individuals between them are alike to them.
        self.assertEqual(smaller(model, (A,)), (((0,), (0,), (0,)), ((0, 0, 2), (0, 1, 0), (0, 2, 2)), (1, 2)))
        # A thing does not become an individual that stands before it.
        self.assertEqual(smaller((((0,), (0,)), ((0, 1, 1),), (0,)), (A,)), (((0,), (0,)), ((0, 1, 1),), (0,)))
        self.assertEqual(smaller((((0,), (0,)), (), (0, 1, 0)), (A,)), (((0,), (0,)), (), (0, 1, 0)))

    def test_links_that_become_the_same(self):
        model = (((0,), (1,), (0,), (1,)), ((0, 0, 1), (0, 2, 3), (1, 0, 3), (1, 3, 2)), ())
        self.assertEqual(smaller(model, (A,)), (((0,), (1,)), ((0, 0, 1), (1, 0, 1), (1, 1, 0)), ()))

    def test_links_are_ascending(self):
        model = (((1,), (0,), (1,), (0,)), ((0, 0, 3), (0, 1, 2), (0, 2, 0), (0, 3, 1)), ())
        self.assertEqual(smaller(model, (A,))[1], ((0, 0, 0), (0, 0, 1), (0, 1, 0), (0, 1, 1)))

    def test_a_thing_keeps_the_concepts_of_the_first_one(self):
        # Only the concepts that are passed make things alike; the names of the things may differ.
        model = (((0, 2), (0,), (1, 2)), ((0, 1, 2),), ())
        self.assertEqual(smaller(model, (A,)), (((0, 2), (1, 2)), ((0, 0, 1),), ()))
        self.assertEqual(smaller(model, (A, C)), model)

    def test_concepts_of_each_form(self):
        model = (((), (0,), (), (1,)), ((0, 0, 1), (0, 2, 3)), ())
        self.assertEqual(smaller(model, (some(R, ANY),)), (((), (0,)), ((0, 0, 1),), ()))
        self.assertEqual(smaller(model, (some(R, A),)), (((), (0,)), ((0, 0, 1), (0, 1, 1)), ()))
        self.assertEqual(smaller(model, (neg(ANY),)), (((),), ((0, 0, 0),), ()))

    def test_what_holds_in_it_and_what_does_not(self):
        for seed in range(150):
            maker = Maker(seed, individuals=2)
            ontology, question = maker.pair(3)
            model = any_model(seed, 2)
            small = smaller(model, atoms(ontology, (question,)))
            for part in [part for axiom in ontology[0] for part in axiom]:
                if part[0] in ("below", "is"):
                    self.assertEqual(part_fault(model, part) is None, part_fault(small, part) is None)
                elif part_fault(model, part) is None:
                    self.assertIsNone(part_fault(small, part))
            if question[0] in ("below", "is"):
                self.assertIs(answers(small, question), answers(model, question))

    def test_values(self):
        self.assertEqual(kinds(smaller(MODEL, (A,))), {tuple, int})


if __name__ == "__main__":
    unittest.main()
