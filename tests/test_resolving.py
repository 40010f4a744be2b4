import unittest

from ontoworks.checking import problems
from ontoworks.reading import read_concept, read_question, read_statement
from ontoworks.resolving import (
    axiom_of, concept_of, core_concept, core_question, opened, parts, question_of, statement_of)
from tests.faults import fault, kinds

NAMES = (("a", "b", "c"), ("r", "s"), ("i", "j"))
AXIOMS = (("k", ("below", ("name", "a"), ("name", "b"))), ("l", ("is", "i", ("name", "c"))))
TEN = tuple((f"k{number}", ("has", "i", "r", "j")) for number in range(10))
ANY = ("any",)
NONE = ("not", ("any",))
A = ("name", 0)
B = ("name", 1)
C = ("name", 2)


def core(text):
    """Return the tree of the text of a concept."""
    return core_concept(NAMES, read_concept(text))


def told(function, text, axioms=AXIOMS):
    """Return the fault that a function raises for a text, or None."""
    return fault(lambda words: function(NAMES, axioms, words), text)


def not_all(role, concept):
    """Return the tree of `all` with a role and a concept."""
    return ("not", ("some", role, ("not", concept)))


def either(first, second):
    """Return the tree of `or` with two concepts."""
    return ("not", ("and", ("not", first), ("not", second)))


class OpenedTest(unittest.TestCase):
    def test_names_and_axioms_in_their_order(self):
        text = ("role s; concept c, a; axiom q: c below a; individual z, y; role r;\n"
                "concept b; axiom p: b equals not a; axiom o: z s y;")
        self.assertEqual(opened(text), (
            (("c", "a", "b"), ("s", "r"), ("z", "y")),
            (("q", ("below", ("name", "c"), ("name", "a"))), ("p", ("equals", ("name", "b"), ("not", ("name", "a")))),
             ("o", ("has", "z", "s", "y")))))

    def test_nothing_declared(self):
        self.assertEqual(opened(""), (((), (), ()), ()))
        self.assertEqual(opened("# nothing"), (((), (), ()), ()))

    def test_all_that_fits(self):
        text = ("concept a,b,c,d,e,f,g,h; role r,s,t,u; individual i,j,k,l;"
                + "".join(f"axiom x{number}: l is a;" for number in range(10)))
        names, axioms = opened(text)
        self.assertEqual(names, (tuple("abcdefgh"), tuple("rstu"), tuple("ijkl")))
        self.assertEqual(axioms, tuple((f"x{number}", ("is", "l", ("name", "a"))) for number in range(10)))

    def test_the_first_problem_is_raised(self):
        for text in ("concept a, a;\naxiom k: a below b;", "concept a;\n axiom k: a below b;\nrole a;", "concept",
                     "concept a, a;\nconcept ;", "concept a, a; $", "role a,b,c,d,e;", "axiom k: i r i;"):
            self.assertEqual(fault(opened, text), problems(text)[0], text)
        self.assertEqual(fault(opened, "concept a;\n axiom k: a below b;\nrole a;"), (2, 2, "unknown concept: b"))

    def test_values(self):
        self.assertEqual(kinds(opened("concept a; role r; axiom k: a below some r a;")), {tuple, str, bool})


class ConceptTest(unittest.TestCase):
    def test_each_form(self):
        for text, tree in (
                ("anything", ANY), ("nothing", NONE), ("a", A), ("c", C), ("not b", ("not", B)),
                ("a and b", ("and", A, B)), ("a or b", either(A, B)),
                ("some r a", ("some", (0, False), A)), ("some inverse s a", ("some", (1, True), A)),
                ("all s b", not_all((1, False), B)), ("all inverse r b", not_all((0, True), B))):
            self.assertEqual(core(text), tree, text)

    def test_forms_within_forms(self):
        for text, tree in (
                ("not not a", ("not", ("not", A))),
                ("not nothing", ("not", NONE)),
                ("a and b and c", ("and", ("and", A, B), C)),
                ("a and (b and c)", ("and", A, ("and", B, C))),
                ("a or b or c", either(either(A, B), C)),
                ("a or (b or c)", either(A, either(B, C))),
                ("not a or not b", either(("not", A), ("not", B))),
                ("all r not a", not_all((0, False), ("not", A))),
                ("all r nothing", not_all((0, False), NONE)),
                ("some r some inverse r anything", ("some", (0, False), ("some", (0, True), ANY))),
                ("all r (a or nothing)", not_all((0, False), either(A, NONE))),
                ("some s (b and all r c)", ("some", (1, False), ("and", B, not_all((0, False), C))))):
            self.assertEqual(core(text), tree, text)

    def test_nothing_is_simplified(self):
        self.assertEqual(core("a and a"), ("and", A, A))
        self.assertEqual(core("a or anything"), either(A, ANY))
        self.assertEqual(core("some r nothing"), ("some", (0, False), NONE))

    def test_numbers_are_those_of_the_kind(self):
        names = (("x", "y"), ("z", "y2"), ())
        self.assertEqual(core_concept(names, ("some", ("y2", True), ("name", "y"))), ("some", (1, True), ("name", 1)))

    def test_a_concept_of_the_greatest_height(self):
        tree = A
        for _ in range(12):
            tree = either(tree, A)
        self.assertEqual(core(" or ".join("a" * 13)), tree)

    def test_values(self):
        self.assertEqual(kinds(core("all r (a or nothing)")), {tuple, str, int, bool})


class QuestionTest(unittest.TestCase):
    def test_each_form(self):
        for text, tree in (
                ("never", ("never",)), ("a below b", ("below", A, B)),
                ("a or b below nothing", ("below", either(A, B), NONE)),
                ("j is c", ("is", 1, C)), ("i is all s a", ("is", 0, not_all((1, False), A))),
                ("i s j", ("has", 0, 1, 1)), ("i r j", ("has", 0, 0, 1)), ("j s i", ("has", 1, 1, 0)),
                ("j r i", ("has", 1, 0, 0)), ("j s j", ("has", 1, 1, 1))):
            self.assertEqual(core_question(NAMES, read_question(text)), tree, text)


class PartsTest(unittest.TestCase):
    def check(self, text, *wanted):
        self.assertEqual(parts(NAMES, read_statement(text)), wanted, text)

    def test_the_example_of_the_document(self):
        self.assertEqual(parts((("a",), ("r",), ()), ("range", ("r", False), ("name", "a"))),
                         (("below", ("some", (0, True), ANY), A),))

    def test_statements_with_one_part(self):
        self.check("a below b", ("below", A, B))
        self.check("a or b below nothing", ("below", either(A, B), NONE))
        self.check("j is c", ("is", 1, C))
        self.check("i is all s a", ("is", 0, not_all((1, False), A)))
        self.check("i r j", ("has", 0, 0, 1))
        self.check("j s i", ("has", 1, 1, 0))

    def test_equals(self):
        self.check("a equals b", ("below", A, B), ("below", B, A))
        self.check("a equals a", ("below", A, A), ("below", A, A))
        self.check("a equals some r b", ("below", A, ("some", (0, False), B)), ("below", ("some", (0, False), B), A))

    def test_apart(self):
        self.check("a, b apart", ("below", ("and", A, B), NONE))
        self.check("c, not a apart", ("below", ("and", C, ("not", A)), NONE))

    def test_domain_and_range(self):
        self.check("domain s b", ("below", ("some", (1, False), ANY), B))
        self.check("domain inverse s b", ("below", ("some", (1, True), ANY), B))
        self.check("range s b", ("below", ("some", (1, True), ANY), B))
        self.check("range inverse s b", ("below", ("some", (1, False), ANY), B))
        self.check("range r a or nothing", ("below", ("some", (0, True), ANY), either(A, NONE)))

    def test_under(self):
        self.check("r under s", ("under", (0, False), (1, False)))
        self.check("inverse s under r", ("under", (1, True), (0, False)))
        self.check("s under inverse s", ("under", (1, False), (1, True)))
        self.check("inverse r under inverse r", ("under", (0, True), (0, True)))

    def test_inverse(self):
        self.check("r inverse s", ("under", (0, False), (1, True)), ("under", (1, True), (0, False)))
        self.check("s inverse r", ("under", (1, False), (0, True)), ("under", (0, True), (1, False)))
        self.check("r inverse r", ("under", (0, False), (0, True)), ("under", (0, True), (0, False)))

    def test_values(self):
        self.assertEqual(kinds(parts(NAMES, read_statement("i is all s a"))), {tuple, str, int, bool})
        self.assertEqual(kinds(parts(NAMES, read_statement("range s b"))), {tuple, str, int, bool})


class LaterTextsTest(unittest.TestCase):
    """Each function is asked about texts that it can take, that cannot be read, and that have a problem."""

    def test_what_is_returned(self):
        self.assertEqual(question_of(NAMES, AXIOMS, "a below some inverse r b"),
                         ("below", ("name", "a"), ("some", ("r", True), ("name", "b"))))
        self.assertEqual(question_of(NAMES, AXIOMS, " never # ever"), ("never",))
        self.assertEqual(question_of(NAMES, AXIOMS, "i is a or nothing"),
                         ("is", "i", ("or", ("name", "a"), ("nothing",))))
        self.assertEqual(statement_of(NAMES, AXIOMS, "a, b apart"), ("apart", ("name", "a"), ("name", "b")))
        self.assertEqual(statement_of(NAMES, AXIOMS, "r inverse s"), ("inverse", "r", "s"))
        self.assertEqual(concept_of(NAMES, AXIOMS, "a or nothing"), either(A, NONE))
        self.assertEqual(axiom_of(NAMES, AXIOMS, " axiom m: i s j; "), ("m", ("has", "i", "s", "j")))

    def test_all_names_of_the_ontology_can_be_used(self):
        for name in NAMES[0]:
            self.assertEqual(concept_of(NAMES, (), name), ("name", NAMES[0].index(name)))
        for role in NAMES[1]:
            self.assertEqual(question_of(NAMES, (), f"i {role} j"), ("has", "i", role, "j"))
        for one in NAMES[2]:
            self.assertEqual(statement_of(NAMES, (), f"{one} is a"), ("is", one, ("name", "a")))

    def test_reasons_of_reading_come_before_problems(self):
        self.assertEqual(told(question_of, "x below"), (1, 8, "expected a concept"))
        self.assertEqual(told(question_of, "x below y z"), (1, 11, "expected the end"))
        self.assertEqual(told(question_of, "x below\n y;"), (2, 3, "expected the end"))
        self.assertEqual(told(statement_of, "x"), (1, 2, "expected below, equals or ,"))
        self.assertEqual(told(statement_of, "x below y $"), (1, 11, "unknown character"))
        self.assertEqual(told(concept_of, "x and"), (1, 6, "expected a concept"))
        self.assertEqual(told(concept_of, ""), (1, 1, "expected a concept"))
        self.assertEqual(told(axiom_of, "axiom k: x below y"), (1, 19, "expected ;"))
        self.assertEqual(told(axiom_of, "concept x; role y;"), (1, 12, "expected the end"))
        self.assertEqual(told(axiom_of, ""), (1, 1, "expected concept, role, individual or axiom"))

    def test_the_place_is_that_of_the_first_token(self):
        for function, text, reason in (
                (question_of, "a below x", "unknown concept: x"), (statement_of, "a equals x", "unknown concept: x"),
                (concept_of, "a and x", "unknown concept: x"), (axiom_of, "axiom m: a below x;", "unknown concept: x"),
                (axiom_of, "axiom a: a below x;", "declared twice: a"), (axiom_of, "role x;", "expected axiom")):
            self.assertEqual(told(function, text), (1, 1, reason))
            self.assertEqual(told(function, f"  {text}"), (1, 3, reason))
            self.assertEqual(told(function, f"# a\n\n # b c\n  {text}\n"), (4, 3, reason))

    def test_the_first_unknown_name(self):
        for text, reason in (
                ("x below y", "unknown concept: x"), ("a below y and x", "unknown concept: y"),
                ("a below some q x", "unknown role: q"), ("some r x below y", "unknown concept: x"),
                ("x is y", "unknown individual: x"), ("i is y", "unknown concept: y"),
                ("x y z", "unknown individual: x"), ("i y z", "unknown role: y"), ("i r z", "unknown individual: z")):
            self.assertEqual(told(question_of, text), (1, 1, reason))
            self.assertEqual(told(statement_of, text), (1, 1, reason))
            self.assertEqual(told(axiom_of, f"axiom m: {text};"), (1, 1, reason))
        self.assertEqual(told(concept_of, "all inverse q x or y"), (1, 1, "unknown role: q"))
        self.assertEqual(told(concept_of, "not (a or y) and x"), (1, 1, "unknown concept: y"))
        self.assertEqual(told(statement_of, "domain x y"), (1, 1, "unknown role: x"))
        self.assertEqual(told(statement_of, "range inverse r y"), (1, 1, "unknown concept: y"))
        self.assertEqual(told(statement_of, "r under inverse x"), (1, 1, "unknown role: x"))
        self.assertEqual(told(statement_of, "x inverse y"), (1, 1, "unknown role: x"))

    def test_names_that_are_declared_as_something_else(self):
        self.assertEqual(told(concept_of, "r"), (1, 1, "unknown concept: r"))
        self.assertEqual(told(concept_of, "some a a"), (1, 1, "unknown role: a"))
        self.assertEqual(told(question_of, "a is a"), (1, 1, "unknown individual: a"))
        self.assertEqual(told(question_of, "i is k"), (1, 1, "unknown concept: k"))
        self.assertEqual(told(statement_of, "i j i"), (1, 1, "unknown role: j"))

    def test_expected_axiom(self):
        for text in ("concept x;", "role x, y;", "individual i;", "concept a, a;", "role r1, r2, r3, r4, r5;"):
            self.assertEqual(told(axiom_of, text), (1, 1, "expected axiom"), text)
        self.assertEqual(told(axiom_of, "concept x;", TEN), (1, 1, "expected axiom"))

    def test_the_name_of_an_axiom_is_in_use(self):
        for name in ("a", "s", "j", "k", "l"):
            self.assertEqual(told(axiom_of, f"axiom {name}: a below b;"), (1, 1, f"declared twice: {name}"))
            self.assertEqual(told(axiom_of, f"axiom {name}: x below y;"), (1, 1, f"declared twice: {name}"))
        self.assertIsNone(told(axiom_of, "axiom k: a below b;", ()))
        self.assertIsNone(told(axiom_of, "axiom K: a below b;"))

    def test_the_eleventh_axiom(self):
        self.assertIsNone(told(axiom_of, "axiom m: a below b;", TEN[:9]))
        self.assertEqual(told(axiom_of, "axiom m: a below b;", TEN), (1, 1, "too many axioms"))
        self.assertEqual(told(axiom_of, "axiom m: x below b;", TEN), (1, 1, "too many axioms"))
        self.assertEqual(told(axiom_of, "axiom k9: x below b;", TEN), (1, 1, "declared twice: k9"))

    def test_other_texts_do_not_ask_how_many_axioms_there_are(self):
        self.assertEqual(statement_of(NAMES, TEN, "i r j"), ("has", "i", "r", "j"))
        self.assertEqual(question_of(NAMES, TEN, "i r j"), ("has", "i", "r", "j"))
        self.assertEqual(concept_of(NAMES, TEN, "a"), A)


if __name__ == "__main__":
    unittest.main()
