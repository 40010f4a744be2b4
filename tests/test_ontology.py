import unittest

from ontoworks.atoms import atoms
from ontoworks.countermodels import counter_model
from ontoworks.derivations import check, named_axioms
from ontoworks.diagrams import asks, holds, ways
from ontoworks.errors import FaultyText, NoSuchAxiom, TooLarge, WrongCount
from ontoworks.explaining import explanation
from ontoworks.models import answers, breaks, members, smaller
from ontoworks.ontology import Ontology
from ontoworks.reasons import all_reasons, blame, chance, cheapest_repair, reasons, repairs, right, shares
from ontoworks.resolving import core_question, opened, parts, question_of
from ontoworks.search import condition
from tests.faults import EXAMPLE, fault, kinds

SOURCE = """concept a, b, c, d; role r, s; individual i, j;
axiom p: a below b; axiom q: b below some r c; axiom o: i is a; axiom n: i r j; axiom m: r under inverse s;
axiom l: domain r d; axiom k: a below d;
"""
QUESTIONS = ("never", "a below d", "i is some r c", "i is d", "j s i", "i r j", "a below b and some r anything",
             "anything below anything", "nothing below d", "j is some inverse r a", "d below a")
NAMES = ("p", "q", "o", "n", "m", "l", "k")
# Nine atoms.
WIDE = "some r a and some r b and some r c and some s a and some s b below some s c"
FAULTY = ("", "a", "a below", "a below e", "i is e", "e r j", "i e j", "i r i i", "all r a below b;", "never never")


def core(source, without=()):
    """Return the names, the ontology and the places of the axioms that are taken, if all but some are."""
    names, axioms = opened(source)
    ontology = (tuple(parts(names, statement) for _, statement in axioms), len(names[2]))
    return names, ontology, tuple(place for place, (name, _) in enumerate(axioms) if name not in without)


def taking(source, *without):
    """Return the ontology of a source of which some axioms are not taken."""
    onto = Ontology(source)
    for name in without:
        onto.take(name, False)
    return onto


def shown(onto):
    """Return all that an ontology shows of itself."""
    told = (onto.names(), onto.axioms(), onto.watched(), onto.versions(), onto.picture())
    oldest = onto.versions()
    return told + tuple((onto.condition(question), onto.compare(oldest, question)) for question in QUESTIONS[:3])


class OpeningTest(unittest.TestCase):
    def test_the_example_of_the_first_points(self):
        onto = Ontology(EXAMPLE)
        self.assertIs(onto.follows("ann is some child person"), True)
        self.assertEqual(onto.all_reasons("ann is some child person"), (("parents", "mothers", "first"),))
        self.assertEqual(onto.reasons("ann is some child person"), (("parents", "mothers", "first"),))
        self.assertEqual(onto.repairs("ann is some child person"), (("parents",), ("mothers",), ("first",)))
        self.assertIs(onto.follows("ann child bob"), False)
        word, model = onto.explain("ann child bob")
        self.assertEqual(word, "model")
        self.assertEqual(onto.breaks(model), ())
        self.assertIs(onto.answers(model, "ann child bob"), False)
        self.assertIs(onto.answers(model, "ann is some child person"), True)
        # Another person is the child.
        ann = model[2][0]
        self.assertTrue([link for link in model[1] if link[:2] == (0, ann) and link[2] != model[2][1]])

    def test_a_new_ontology(self):
        onto = Ontology(SOURCE)
        self.assertEqual(onto.names(), (("a", "b", "c", "d"), ("r", "s"), ("i", "j")))
        self.assertEqual(onto.axioms(), (
            ("p", "a below b", True), ("q", "b below some r c", True), ("o", "i is a", True), ("n", "i r j", True),
            ("m", "r under inverse s", True), ("l", "domain r d", True), ("k", "a below d", True)))
        self.assertEqual(onto.watched(), ())
        self.assertEqual(onto.versions(), 0)

    def test_an_empty_source(self):
        onto = Ontology("")
        self.assertEqual((onto.names(), onto.axioms(), onto.watched()), (((), (), ()), (), ()))
        self.assertEqual(onto.picture(), (True, (), (), ()))
        self.assertIs(onto.follows("never"), False)
        self.assertIs(onto.follows("anything below anything"), True)

    def test_statements_are_shown_by_their_canonical_texts(self):
        onto = Ontology("concept a,b; axiom k:(a)equals not(  a or\nb ) ; # and nothing else")
        self.assertEqual(onto.axioms(), (("k", "a equals not (a or b)", True),))

    def test_the_first_problem(self):
        for source, wanted in (("concept a", (1, 10, "expected ;")), ("concept a, a;", (1, 1, "declared twice: a")),
                               ("concept a; axiom k: a below b; role a;", (1, 12, "unknown concept: b"))):
            self.assertEqual(fault(Ontology, source), wanted)

    def test_too_large(self):
        names = "concept a, b, c, d, e, f, g, h; role r; "
        twelve = "axiom k: a and b and c and d and e and f and g and h below some r a and some r b; "
        Ontology(names + twelve + "axiom l: a below some r c or some r d;")
        for more, count in (
                ("axiom l: a below some r c or some r d or some r e;", 13),
                ("axiom l: a below some r c or some r d; axiom m: some r (a or b) below some r (b or a);", 14)):
            with self.assertRaises(TooLarge) as caught:
                Ontology(names + twelve + more)
            self.assertEqual(caught.exception.count, count)
        # A problem comes first.
        self.assertEqual(fault(Ontology, names + twelve + "axiom l: some r c or some r d below some r e or z;"),
                         (1, len(names + twelve) + 1, "unknown concept: z"))


class AskingTest(unittest.TestCase):
    """What the methods return is what the functions of the same names return, with names in place of numbers."""

    def cases(self):
        for without in ((), ("q",), ("p", "o"), NAMES):
            names, ontology, taken = core(SOURCE, without)
            onto = taking(SOURCE, *without)
            for text in QUESTIONS:
                tree = core_question(names, question_of(names, (), text))
                yield onto, text, condition(ontology, tree), taken

    def named(self, places):
        return tuple(NAMES[place] for place in places)

    def test_follows(self):
        for onto, text, found, taken in self.cases():
            self.assertIs(onto.follows(text), holds(found, taken), text)

    def test_condition(self):
        onto = Ontology(SOURCE)
        self.assertEqual(onto.condition("i is some r c"), ((("o", 0, 1), ("q", 0, 2), ("p", 0, 3)), 4))
        self.assertEqual(onto.condition("j s i"), ((("m", 0, 1), ("n", 0, 2)), 3))
        for onto, text, (nodes, root), _ in self.cases():
            wanted = (tuple((NAMES[number], without, within) for number, without, within in nodes), root)
            self.assertEqual(onto.condition(text), wanted, text)

    def test_ways_and_matters(self):
        for onto, text, found, _ in self.cases():
            self.assertEqual(onto.ways(text), ways(found, 7), text)
            self.assertEqual(onto.matters(text), self.named(asks(found)), text)

    def test_reasons_and_repairs(self):
        for onto, text, found, taken in self.cases():
            self.assertEqual(onto.all_reasons(text), tuple(map(self.named, all_reasons(found))), text)
            self.assertEqual(onto.reasons(text), tuple(map(self.named, reasons(found, taken))), text)
            self.assertEqual(onto.repairs(text), tuple(map(self.named, repairs(found, taken))), text)

    def test_sets_are_in_the_order_of_the_axioms_not_of_their_names(self):
        onto = Ontology("concept a, b, c; axiom z: a below b; axiom y: b below c; axiom x: a below c; "
                        "axiom w: a below c;")
        self.assertEqual(onto.reasons("a below c"), (("x",), ("w",), ("z", "y")))

    def test_blame_and_shares(self):
        for onto, text, found, taken in self.cases():
            self.assertEqual(onto.blame(text), tuple((NAMES[axiom], self.named(others))
                                                     for axiom, others in blame(found, taken)), text)
            self.assertEqual(onto.shares(text), tuple((NAMES[axiom], share) for axiom, share in shares(found, taken)))

    def test_costs_and_chances(self):
        costs = (3, 0, None, 2, 1000, 7, 1)
        chances = (500, 1000, 250, 999, 1, 0, 125)
        for onto, text, found, taken in self.cases():
            cheapest = cheapest_repair(found, taken, costs)
            wanted = None if cheapest is None else (cheapest[0], self.named(cheapest[1]))
            self.assertEqual(onto.cheapest_repair(text, costs), wanted, text)
            self.assertEqual(onto.chance(text, chances), chance(found, chances), text)
            self.assertEqual(onto.right(text, chances), right(found, chances), text)

    def test_wrong_counts(self):
        onto = Ontology(SOURCE)
        for method in (onto.cheapest_repair, onto.chance, onto.right):
            for numbers in ((), (1,) * 6, (1,) * 8):
                with self.assertRaises(WrongCount):
                    method("a below d", numbers)
                # The errors of the question come first.
                self.assertEqual(fault(lambda text: method(text, numbers), "a below e"), (1, 1, "unknown concept: e"))
                with self.assertRaises(TooLarge):
                    method(WIDE, numbers)

    def test_models_and_derivations(self):
        for without in ((), ("q",), ("p", "o"), ("n", "l"), NAMES):
            names, ontology, taken = core(SOURCE, without)
            onto = taking(SOURCE, *without)
            for text in QUESTIONS:
                tree = core_question(names, question_of(names, (), text))
                self.assertEqual(onto.explain(text), explanation(ontology, taken, tree))
                self.assertEqual(onto.counter_model(text), counter_model(ontology, taken, tree))
                word, told = onto.explain(text)
                self.assertEqual(word == "derivation", onto.follows(text))
                if word == "derivation":
                    self.assertIsNone(onto.check(text, told))
                    self.assertIsNone(onto.counter_model(text))
                    self.assertEqual(onto.named_axioms(told), self.named(named_axioms(told)))
                    for other in QUESTIONS:
                        asked = core_question(names, question_of(names, (), other))
                        self.assertEqual(onto.check(other, told), check(ontology, taken, asked, told))
                else:
                    self.assertIs(onto.answers(told, text), False)
                    self.assertEqual(onto.breaks(told), ())

    def test_derivations_name_axioms_that_are_not_taken(self):
        onto = Ontology(SOURCE)
        derivation = onto.explain("i is d")[1]
        named = onto.named_axioms(derivation)
        onto.take(named[0], False)
        self.assertIsNotNone(onto.check("i is d", derivation))
        self.assertEqual(onto.named_axioms(derivation), named)

    def test_places_at_which_there_is_no_axiom(self):
        onto = Ontology(SOURCE)
        reason = (("axiom", 0, 6, 0), ("axiom", 0, 7, 0), ("member", 300, 0), ("member", 0, 0), ("axiom", 0, 2, 0))
        lines = ("lines", tuple((("thing",), (), told) for told in reason))
        self.assertEqual(onto.named_axioms(lines), ("p", "o", "k"))
        self.assertEqual(onto.check("never", lines), 0)
        self.assertEqual(onto.named_axioms(("said", 9, 0, False, ())), ())

    def test_breaks_by_names_in_order(self):
        onto = Ontology(SOURCE)
        names, ontology, _ = core(SOURCE)
        model = (((0,), ()), ((0, 1, 0),), (0, 1))
        self.assertEqual(breaks(model, ontology, tuple(range(7))),
                         ((0, 0, (0,)), (3, 0, (0, 1)), (4, 0, (1, 0)), (5, 0, (1,)), (6, 0, (0,))))
        self.assertEqual(onto.breaks(model),
                         (("p", 0, (0,)), ("n", 0, (0, 1)), ("m", 0, (1, 0)), ("l", 0, (1,)), ("k", 0, (0,))))
        onto.take("n", False)
        onto.take("p", False)
        self.assertEqual(onto.breaks(model), (("m", 0, (1, 0)), ("l", 0, (1,)), ("k", 0, (0,))))

    def test_answers_and_members(self):
        onto = Ontology(SOURCE)
        model = (((0, 1), (2,)), ((0, 0, 1), (1, 1, 0)), (0, 1))
        for question in QUESTIONS:
            names, _, _ = core(SOURCE)
            tree = core_question(names, question_of(names, (), question))
            self.assertIs(onto.answers(model, question), answers(model, tree), question)
        for concept, wanted in (("a", (0,)), ("anything", (0, 1)), ("nothing", ()), ("some r c", (0,)),
                                ("all inverse r a", (0, 1)), ("not (a or c)", ())):
            self.assertEqual(onto.members(model, concept), wanted)
        self.assertEqual(members(model, ("name", 2)), onto.members(model, "c"))
        for concept, wanted in (("a b", (1, 3, "expected the end")), (" e", (1, 2, "unknown concept: e")),
                                ("some e a", (1, 1, "unknown role: e")), ("a below b", (1, 3, "expected the end"))):
            self.assertEqual(fault(lambda text: onto.members(model, text), concept), wanted)

    def test_answers_does_not_count_atoms(self):
        onto = Ontology(SOURCE)
        self.assertIs(onto.answers((((),), (), (0, 0)), WIDE), True)

    def test_smaller(self):
        onto = Ontology(SOURCE)
        names, ontology, _ = core(SOURCE)
        model = (((0,), (1,), (2,), (0,), (2, 1), (0,)), ((0, 0, 1), (0, 3, 4), (1, 5, 2), (0, 5, 2)), (2, 2))
        self.assertEqual(onto.smaller(model), smaller(model, atoms(ontology, ())))
        # Axioms that are not taken count, too, and questions that are watched.
        onto.take("q", False)
        self.assertEqual(onto.smaller(model), smaller(model, atoms(ontology, ())))
        onto.watch("a below some s c")
        tree = core_question(names, question_of(names, (), "a below some s c"))
        self.assertNotEqual(smaller(model, atoms(ontology, ())), smaller(model, atoms(ontology, (tree,))))
        self.assertEqual(onto.smaller(model), smaller(model, atoms(ontology, (tree,))))
        onto.unwatch("a below some s c")
        self.assertEqual(onto.smaller(model), smaller(model, atoms(ontology, ())))

    def test_values(self):
        onto = Ontology(SOURCE)
        plain = {tuple, str, int, bool, type(None)}
        for question in QUESTIONS:
            for method in (onto.follows, onto.condition, onto.ways, onto.matters, onto.reasons, onto.all_reasons,
                           onto.repairs, onto.blame, onto.shares, onto.counter_model, onto.explain):
                self.assertLessEqual(kinds(method(question)), plain)


class ErrorsTest(unittest.TestCase):
    def methods(self, onto):
        """Return all methods with a question, as functions of the text of the question alone."""
        model = (((),), (), (0, 0))
        found = [onto.watch, onto.unwatch, onto.follows, onto.condition, onto.ways, onto.matters, onto.reasons,
                 onto.all_reasons, onto.repairs, onto.blame, onto.shares, onto.counter_model, onto.explain]
        return found + [
            lambda text: onto.cheapest_repair(text, ()), lambda text: onto.chance(text, ()),
            lambda text: onto.right(text, ()), lambda text: onto.compare(99, text),
            lambda text: onto.check(text, ("lines", ())), lambda text: onto.answers(model, text)]

    def test_faulty_questions(self):
        onto = Ontology(SOURCE)
        names, axioms = opened(SOURCE)
        for text in FAULTY:
            wanted = fault(lambda words: question_of(names, axioms, words), text)
            self.assertIsNotNone(wanted, text)
            for method in self.methods(onto):
                self.assertEqual(fault(method, text), wanted, text)

    def test_faulty_questions_that_are_too_large(self):
        onto = Ontology(SOURCE)
        for method in self.methods(onto):
            self.assertEqual(fault(method, WIDE + " and e"), (1, 1, "unknown concept: e"))

    def test_questions_with_too_many_atoms(self):
        onto = Ontology(SOURCE)
        for method in self.methods(onto)[:-1]:
            with self.assertRaises(TooLarge) as caught:
                method(WIDE)
            self.assertEqual(caught.exception.count, 9)
        self.assertEqual(onto.versions(), 0)

    def test_questions_with_eight_atoms(self):
        onto = Ontology(SOURCE)
        text = "some r a and some r b and some r c and some s a and some s b below a"
        self.assertIs(onto.follows(text), False)
        onto.watch(text)
        self.assertEqual(onto.watched(), ((text, False),))

    def test_no_such_axiom(self):
        onto = Ontology(SOURCE)
        for call in (lambda: onto.remove("z"), lambda: onto.take("z", True), lambda: onto.take("z", False),
                     lambda: onto.change("z", "a below b"), lambda: onto.change("z", "faulty"),
                     lambda: onto.picture(("p", "z", "y"))):
            with self.assertRaises(NoSuchAxiom) as caught:
                call()
            self.assertEqual(caught.exception.name, "z")
        with self.assertRaises(NoSuchAxiom):
            onto.remove("a")

    def test_concepts_are_no_axioms(self):
        onto = Ontology(SOURCE)
        with self.assertRaises(FaultyText):
            onto.follows("p below q")


class TwoObjectsTest(unittest.TestCase):
    def test_what_is_done_to_one_does_not_change_the_other(self):
        first, second = Ontology(SOURCE), Ontology(SOURCE)
        before = shown(second)
        first.watch("a below d")
        first.remove("p")
        first.add("axiom z: a below b and c;")
        first.change("q", "b below c")
        first.take("o", False)
        self.assertEqual(shown(second), before)
        second.watch("never")
        second.remove("q")
        self.assertEqual(first.watched(), (("a below d", True),))
        self.assertEqual([name for name, _, _ in first.axioms()], ["q", "o", "n", "m", "l", "k", "z"])

    def test_questions_change_nothing(self):
        onto = Ontology(SOURCE)
        onto.watch("a below d")
        onto.take("k", False)
        before = shown(onto)
        model = (((),), (), (0, 0))
        for question in QUESTIONS:
            for method in (onto.follows, onto.condition, onto.ways, onto.matters, onto.reasons, onto.all_reasons,
                           onto.repairs, onto.blame, onto.shares, onto.counter_model, onto.explain):
                method(question)
            onto.chance(question, (5,) * 7)
            onto.compare(1, question)
            onto.answers(model, question)
        onto.picture(("p",))
        onto.relation("a", "b")
        onto.smaller(model)
        onto.breaks(model)
        self.assertEqual(shown(onto), before)


if __name__ == "__main__":
    unittest.main()
