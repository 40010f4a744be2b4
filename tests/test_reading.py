import unittest

from ontoworks.reading import read_concept, read_item, read_question, read_source, read_statement
from tests.faults import EXAMPLE, fault, kinds

A = ("name", "a")
B = ("name", "b")
C = ("name", "c")
D = ("name", "d")
R = ("r", False)
BACK = ("r", True)
READERS = (read_source, read_item, read_statement, read_question, read_concept)


def chain(word, count):
    """Return a concept with so many operators, its height, side by side."""
    return f" {word} ".join(["a"] * (count + 1))


class ConceptTest(unittest.TestCase):
    def test_the_example_of_the_document(self):
        self.assertEqual(read_concept("a or not b and c"), ("or", A, ("and", ("not", B), C)))

    def test_atoms(self):
        self.assertEqual(read_concept("a"), A)
        self.assertEqual(read_concept("anything"), ("anything",))
        self.assertEqual(read_concept("nothing"), ("nothing",))
        self.assertEqual(read_concept("Anything"), ("name", "Anything"))

    def test_not_some_and_all(self):
        self.assertEqual(read_concept("not a"), ("not", A))
        self.assertEqual(read_concept("some r a"), ("some", R, A))
        self.assertEqual(read_concept("some inverse r a"), ("some", BACK, A))
        self.assertEqual(read_concept("all r anything"), ("all", R, ("anything",)))
        self.assertEqual(read_concept("all inverse r nothing"), ("all", BACK, ("nothing",)))
        self.assertEqual(read_concept("not some r all inverse r not a"),
                         ("not", ("some", R, ("all", BACK, ("not", A)))))

    def test_and_and_or_associate_to_the_left(self):
        self.assertEqual(read_concept("a and b and c"), ("and", ("and", A, B), C))
        self.assertEqual(read_concept("a or b or c"), ("or", ("or", A, B), C))
        self.assertEqual(read_concept("a or b or c or d"), ("or", ("or", ("or", A, B), C), D))

    def test_and_binds_more_tightly_than_or(self):
        self.assertEqual(read_concept("a and b or c and d"), ("or", ("and", A, B), ("and", C, D)))
        self.assertEqual(read_concept("a or b and c or d"), ("or", ("or", A, ("and", B, C)), D))

    def test_not_some_and_all_bind_more_tightly_than_and(self):
        self.assertEqual(read_concept("some r a and b"), ("and", ("some", R, A), B))
        self.assertEqual(read_concept("all r a or b"), ("or", ("all", R, A), B))
        self.assertEqual(read_concept("not a and b"), ("and", ("not", A), B))
        self.assertEqual(read_concept("a and some r not b and c"), ("and", ("and", A, ("some", R, ("not", B))), C))

    def test_parentheses(self):
        self.assertEqual(read_concept("a and (b and c)"), ("and", A, ("and", B, C)))
        self.assertEqual(read_concept("a or (b or c)"), ("or", A, ("or", B, C)))
        self.assertEqual(read_concept("(a or b) and c"), ("and", ("or", A, B), C))
        self.assertEqual(read_concept("a and (b or c)"), ("and", A, ("or", B, C)))
        self.assertEqual(read_concept("not (a and b)"), ("not", ("and", A, B)))
        self.assertEqual(read_concept("some r (a or b)"), ("some", R, ("or", A, B)))

    def test_needless_parentheses(self):
        self.assertEqual(read_concept("((a))"), A)
        self.assertEqual(read_concept("(a and b) and (c)"), ("and", ("and", A, B), C))
        self.assertEqual(read_concept("(not (a))or(b and c)"), ("or", ("not", A), ("and", B, C)))
        self.assertEqual(read_concept("all r ((anything))"), ("all", R, ("anything",)))

    def test_blanks_and_comments(self):
        self.assertEqual(read_concept("\n a # not\nand(b)#c"), ("and", A, B))

    def test_expected_a_concept(self):
        self.assertEqual(fault(read_concept, ""), (1, 1, "expected a concept"))
        self.assertEqual(fault(read_concept, "a and"), (1, 6, "expected a concept"))
        self.assertEqual(fault(read_concept, "a or\n"), (2, 1, "expected a concept"))
        self.assertEqual(fault(read_concept, "a and or b"), (1, 7, "expected a concept"))
        self.assertEqual(fault(read_concept, "not"), (1, 4, "expected a concept"))
        self.assertEqual(fault(read_concept, "not)"), (1, 4, "expected a concept"))
        self.assertEqual(fault(read_concept, "some r"), (1, 7, "expected a concept"))
        self.assertEqual(fault(read_concept, "all r below"), (1, 7, "expected a concept"))
        self.assertEqual(fault(read_concept, "()"), (1, 2, "expected a concept"))
        self.assertEqual(fault(read_concept, "("), (1, 2, "expected a concept"))
        self.assertEqual(fault(read_concept, "never"), (1, 1, "expected a concept"))
        self.assertEqual(fault(read_concept, "inverse r"), (1, 1, "expected a concept"))

    def test_expected_a_name(self):
        self.assertEqual(fault(read_concept, "some"), (1, 5, "expected a name"))
        self.assertEqual(fault(read_concept, "some not a"), (1, 6, "expected a name"))
        self.assertEqual(fault(read_concept, "all anything a"), (1, 5, "expected a name"))
        self.assertEqual(fault(read_concept, "all inverse"), (1, 12, "expected a name"))
        self.assertEqual(fault(read_concept, "some inverse inverse r a"), (1, 14, "expected a name"))
        self.assertEqual(fault(read_concept, "some (r) a"), (1, 6, "expected a name"))

    def test_expected_a_closing_parenthesis(self):
        self.assertEqual(fault(read_concept, "(a"), (1, 3, "expected )"))
        self.assertEqual(fault(read_concept, "(a b)"), (1, 4, "expected )"))
        self.assertEqual(fault(read_concept, "((a and b) or c"), (1, 16, "expected )"))
        self.assertEqual(fault(read_concept, "not (a;"), (1, 7, "expected )"))

    def test_expected_the_end(self):
        self.assertEqual(fault(read_concept, "a b"), (1, 3, "expected the end"))
        self.assertEqual(fault(read_concept, "a)"), (1, 2, "expected the end"))
        self.assertEqual(fault(read_concept, "a and b\n;"), (2, 1, "expected the end"))
        self.assertEqual(fault(read_concept, "not a not b"), (1, 7, "expected the end"))
        self.assertEqual(fault(read_concept, "a below b"), (1, 3, "expected the end"))


class StatementTest(unittest.TestCase):
    def test_the_forms(self):
        for text, tree in (
            ("a below b", ("below", A, B)),
            ("a equals b", ("equals", A, B)),
            ("a, b apart", ("apart", A, B)),
            ("domain r a", ("domain", R, A)),
            ("domain inverse r a", ("domain", BACK, A)),
            ("range r a", ("range", R, A)),
            ("range inverse r a", ("range", BACK, A)),
            ("r under s", ("under", R, ("s", False))),
            ("inverse r under s", ("under", BACK, ("s", False))),
            ("r under inverse s", ("under", R, ("s", True))),
            ("inverse r under inverse s", ("under", BACK, ("s", True))),
            ("r inverse s", ("inverse", "r", "s")),
            ("x is a", ("is", "x", A)),
            ("x r y", ("has", "x", "r", "y")),
        ):
            self.assertEqual(read_statement(text), tree)

    def test_concepts_in_statements(self):
        for text, tree in (
            ("a and b below c or d", ("below", ("and", A, B), ("or", C, D))),
            ("a or b equals not c", ("equals", ("or", A, B), ("not", C))),
            ("a and b, c and d apart", ("apart", ("and", A, B), ("and", C, D))),
            ("(a) below (b)", ("below", A, B)),
            ("anything below nothing", ("below", ("anything",), ("nothing",))),
            ("nothing, anything apart", ("apart", ("nothing",), ("anything",))),
            ("not a below some r b", ("below", ("not", A), ("some", R, B))),
            ("some r a equals all r b", ("equals", ("some", R, A), ("all", R, B))),
            ("domain r a or b and c", ("domain", R, ("or", A, ("and", B, C)))),
            ("x is not a and b", ("is", "x", ("and", ("not", A), B))),
        ):
            self.assertEqual(read_statement(text), tree)

    def test_expected_a_concept(self):
        self.assertEqual(fault(read_statement, ""), (1, 1, "expected a concept"))
        for word in (")", ";", ",", ":", "never", "is", "under", "below", "equals", "apart", "and", "or", "axiom"):
            self.assertEqual(fault(read_statement, word), (1, 1, "expected a concept"), word)
        self.assertEqual(fault(read_statement, "a below"), (1, 8, "expected a concept"))
        self.assertEqual(fault(read_statement, "a equals ;"), (1, 10, "expected a concept"))
        self.assertEqual(fault(read_statement, "a,"), (1, 3, "expected a concept"))
        self.assertEqual(fault(read_statement, "a, apart"), (1, 4, "expected a concept"))
        self.assertEqual(fault(read_statement, "domain r"), (1, 9, "expected a concept"))
        self.assertEqual(fault(read_statement, "range inverse r below"), (1, 17, "expected a concept"))
        self.assertEqual(fault(read_statement, "x is"), (1, 5, "expected a concept"))
        self.assertEqual(fault(read_statement, "x is is"), (1, 6, "expected a concept"))

    def test_expected_below_equals_or_comma(self):
        reason = "expected below, equals or ,"
        self.assertEqual(fault(read_statement, "a"), (1, 2, reason))
        self.assertEqual(fault(read_statement, "a;"), (1, 2, reason))
        self.assertEqual(fault(read_statement, "a and b"), (1, 8, reason))
        self.assertEqual(fault(read_statement, "a and b is c"), (1, 9, reason))
        self.assertEqual(fault(read_statement, "a apart"), (1, 3, reason))
        self.assertEqual(fault(read_statement, "a not b"), (1, 3, reason))
        self.assertEqual(fault(read_statement, "(a) under b"), (1, 5, reason))
        self.assertEqual(fault(read_statement, "(a) b c"), (1, 5, reason))
        self.assertEqual(fault(read_statement, "anything is a"), (1, 10, reason))
        self.assertEqual(fault(read_statement, "some r a b"), (1, 10, reason))

    def test_expected_apart(self):
        self.assertEqual(fault(read_statement, "a, b"), (1, 5, "expected apart"))
        self.assertEqual(fault(read_statement, "a, b;"), (1, 5, "expected apart"))
        self.assertEqual(fault(read_statement, "a, b, c apart"), (1, 5, "expected apart"))
        self.assertEqual(fault(read_statement, "a, b or c below d"), (1, 11, "expected apart"))

    def test_expected_under(self):
        self.assertEqual(fault(read_statement, "inverse r"), (1, 10, "expected under"))
        self.assertEqual(fault(read_statement, "inverse r inverse s"), (1, 11, "expected under"))
        self.assertEqual(fault(read_statement, "inverse r is a"), (1, 11, "expected under"))
        self.assertEqual(fault(read_statement, "inverse r s t"), (1, 11, "expected under"))

    def test_expected_a_name(self):
        self.assertEqual(fault(read_statement, "inverse"), (1, 8, "expected a name"))
        self.assertEqual(fault(read_statement, "inverse inverse r under s"), (1, 9, "expected a name"))
        self.assertEqual(fault(read_statement, "r under"), (1, 8, "expected a name"))
        self.assertEqual(fault(read_statement, "r under inverse"), (1, 16, "expected a name"))
        self.assertEqual(fault(read_statement, "r under not s"), (1, 9, "expected a name"))
        self.assertEqual(fault(read_statement, "r inverse"), (1, 10, "expected a name"))
        self.assertEqual(fault(read_statement, "r inverse inverse s"), (1, 11, "expected a name"))
        self.assertEqual(fault(read_statement, "x r"), (1, 4, "expected a name"))
        self.assertEqual(fault(read_statement, "x r is"), (1, 5, "expected a name"))
        self.assertEqual(fault(read_statement, "a b below c"), (1, 5, "expected a name"))
        self.assertEqual(fault(read_statement, "domain"), (1, 7, "expected a name"))
        self.assertEqual(fault(read_statement, "domain is a"), (1, 8, "expected a name"))
        self.assertEqual(fault(read_statement, "range inverse some"), (1, 15, "expected a name"))

    def test_expected_a_closing_parenthesis(self):
        self.assertEqual(fault(read_statement, "(a below b)"), (1, 4, "expected )"))
        self.assertEqual(fault(read_statement, "(x is a)"), (1, 4, "expected )"))
        self.assertEqual(fault(read_statement, "x is (a"), (1, 8, "expected )"))

    def test_expected_the_end(self):
        self.assertEqual(fault(read_statement, "a below b;"), (1, 10, "expected the end"))
        self.assertEqual(fault(read_statement, "a below b below c"), (1, 11, "expected the end"))
        self.assertEqual(fault(read_statement, "a, b apart c"), (1, 12, "expected the end"))
        self.assertEqual(fault(read_statement, "r under s or t"), (1, 11, "expected the end"))
        self.assertEqual(fault(read_statement, "r inverse s t"), (1, 13, "expected the end"))
        self.assertEqual(fault(read_statement, "x is a b"), (1, 8, "expected the end"))
        self.assertEqual(fault(read_statement, "x r y and z"), (1, 7, "expected the end"))


class QuestionTest(unittest.TestCase):
    def test_the_forms(self):
        for text, tree in (
            ("never", ("never",)),
            ("a below b", ("below", A, B)),
            ("not a and b below nothing", ("below", ("and", ("not", A), B), ("nothing",))),
            ("a and b below c or d", ("below", ("and", A, B), ("or", C, D))),
            ("(a) below anything", ("below", A, ("anything",))),
            ("x is a or b", ("is", "x", ("or", A, B))),
            ("x r y", ("has", "x", "r", "y")),
            ("Never is a", ("is", "Never", A)),
        ):
            self.assertEqual(read_question(text), tree)

    def test_the_example_of_the_document(self):
        self.assertEqual(fault(read_question, "a is"), (1, 5, "expected a concept"))

    def test_expected_a_concept(self):
        self.assertEqual(fault(read_question, ""), (1, 1, "expected a concept"))
        for word in ("domain", "range", "inverse", "is", "below", "concept", ")", ";", "or", "apart"):
            self.assertEqual(fault(read_question, word + " a"), (1, 1, "expected a concept"), word)
        self.assertEqual(fault(read_question, "a below"), (1, 8, "expected a concept"))
        self.assertEqual(fault(read_question, "a below never"), (1, 9, "expected a concept"))

    def test_expected_below(self):
        self.assertEqual(fault(read_question, "a"), (1, 2, "expected below"))
        self.assertEqual(fault(read_question, "a equals b"), (1, 3, "expected below"))
        self.assertEqual(fault(read_question, "a, b apart"), (1, 2, "expected below"))
        self.assertEqual(fault(read_question, "r under s"), (1, 3, "expected below"))
        self.assertEqual(fault(read_question, "r inverse s"), (1, 3, "expected below"))
        self.assertEqual(fault(read_question, "a and b"), (1, 8, "expected below"))
        self.assertEqual(fault(read_question, "(a) is b"), (1, 5, "expected below"))
        self.assertEqual(fault(read_question, "not a b"), (1, 7, "expected below"))

    def test_expected_a_name(self):
        self.assertEqual(fault(read_question, "x r"), (1, 4, "expected a name"))
        self.assertEqual(fault(read_question, "x r not"), (1, 5, "expected a name"))
        self.assertEqual(fault(read_question, "a below some"), (1, 13, "expected a name"))

    def test_expected_the_end(self):
        self.assertEqual(fault(read_question, "never;"), (1, 6, "expected the end"))
        self.assertEqual(fault(read_question, "never is a"), (1, 7, "expected the end"))
        self.assertEqual(fault(read_question, "a below b equals c"), (1, 11, "expected the end"))
        self.assertEqual(fault(read_question, "x is a;"), (1, 7, "expected the end"))
        self.assertEqual(fault(read_question, "x r y z"), (1, 7, "expected the end"))


class ItemTest(unittest.TestCase):
    def test_declarations(self):
        self.assertEqual(read_item("concept a;"), ("concepts", ("a",)))
        self.assertEqual(read_item("concept a, b,c;"), ("concepts", ("a", "b", "c")))
        self.assertEqual(read_item("role r;"), ("roles", ("r",)))
        self.assertEqual(read_item("individual x, x;"), ("individuals", ("x", "x")))

    def test_axioms(self):
        self.assertEqual(read_item("axiom k: a below b;"), ("axiom", "k", ("below", A, B)))
        self.assertEqual(read_item("axiom k:a,b apart;"), ("axiom", "k", ("apart", A, B)))
        self.assertEqual(read_item("axiom a: a b c;"), ("axiom", "a", ("has", "a", "b", "c")))

    def test_where_an_item_begins(self):
        reason = "expected concept, role, individual or axiom"
        self.assertEqual(fault(read_item, ""), (1, 1, reason))
        self.assertEqual(fault(read_item, "\n ;"), (2, 2, reason))
        self.assertEqual(fault(read_item, "a below b;"), (1, 1, reason))
        self.assertEqual(fault(read_item, "Concept a;"), (1, 1, reason))
        self.assertEqual(fault(read_item, "inverse"), (1, 1, reason))

    def test_expected_a_name(self):
        for word in ("concept", "role", "individual", "axiom"):
            self.assertEqual(fault(read_item, word), (1, len(word) + 1, "expected a name"))
            self.assertEqual(fault(read_item, word + " ;"), (1, len(word) + 2, "expected a name"))
            self.assertEqual(fault(read_item, word + " role"), (1, len(word) + 2, "expected a name"))
        self.assertEqual(fault(read_item, "concept a,;"), (1, 11, "expected a name"))
        self.assertEqual(fault(read_item, "concept a, below"), (1, 12, "expected a name"))

    def test_expected_a_semicolon(self):
        self.assertEqual(fault(read_item, "concept a"), (1, 10, "expected ;"))
        self.assertEqual(fault(read_item, "role r s;"), (1, 8, "expected ;"))
        self.assertEqual(fault(read_item, "individual x:"), (1, 13, "expected ;"))
        self.assertEqual(fault(read_item, "axiom k: a below b"), (1, 19, "expected ;"))
        self.assertEqual(fault(read_item, "axiom k: a below b c;"), (1, 20, "expected ;"))
        self.assertEqual(fault(read_item, "axiom k: x r y z;"), (1, 16, "expected ;"))
        self.assertEqual(fault(read_item, "axiom k: x is (a));"), (1, 18, "expected ;"))

    def test_expected_a_colon(self):
        self.assertEqual(fault(read_item, "axiom k"), (1, 8, "expected :"))
        self.assertEqual(fault(read_item, "axiom k a below b;"), (1, 9, "expected :"))
        self.assertEqual(fault(read_item, "axiom k;"), (1, 8, "expected :"))

    def test_reasons_of_the_statement(self):
        self.assertEqual(fault(read_item, "axiom k:"), (1, 9, "expected a concept"))
        self.assertEqual(fault(read_item, "axiom k:\n;"), (2, 1, "expected a concept"))
        self.assertEqual(fault(read_item, "axiom k: a;"), (1, 11, "expected below, equals or ,"))
        self.assertEqual(fault(read_item, "axiom k: a, b;"), (1, 14, "expected apart"))
        self.assertEqual(fault(read_item, "axiom k: inverse r;"), (1, 19, "expected under"))

    def test_expected_the_end(self):
        self.assertEqual(fault(read_item, "concept a; role r;"), (1, 12, "expected the end"))
        self.assertEqual(fault(read_item, "axiom k: a below b;;"), (1, 20, "expected the end"))


class SourceTest(unittest.TestCase):
    def test_without_items(self):
        for text in ("", " \n\n", "# nothing", "# nothing\n\n"):
            self.assertEqual(read_source(text), ())

    def test_the_example_of_the_document(self):
        self.assertEqual(read_source(EXAMPLE), (
            ("concepts", ("person", "parent", "mother")),
            ("roles", ("child",)),
            ("individuals", ("ann", "bob")),
            ("axiom", "parents", ("equals", ("name", "parent"), (
                "and", ("name", "person"), ("some", ("child", False), ("name", "person"))))),
            ("axiom", "mothers", ("below", ("name", "mother"), ("name", "parent"))),
            ("axiom", "first", ("is", "ann", ("name", "mother"))),
            ("axiom", "second", ("is", "bob", ("name", "person"))),
        ))

    def test_items_in_any_order_and_names_as_they_come(self):
        self.assertEqual(read_source("axiom k: a below b;concept a;concept a;role a;"), (
            ("axiom", "k", ("below", A, B)), ("concepts", ("a",)), ("concepts", ("a",)), ("roles", ("a",))))

    def test_where_an_item_begins(self):
        reason = "expected concept, role, individual or axiom"
        self.assertEqual(fault(read_source, "a"), (1, 1, reason))
        self.assertEqual(fault(read_source, "concept a;\nrole r;\n x"), (3, 2, reason))
        self.assertEqual(fault(read_source, "concept a;;"), (1, 11, reason))
        self.assertEqual(fault(read_source, "concept a; never;"), (1, 12, reason))

    def test_the_first_reason_alone(self):
        self.assertEqual(fault(read_source, "concept a\nrole ;"), (2, 1, "expected ;"))
        self.assertEqual(fault(read_source, "concept a;\nrole ;\naxiom;"), (2, 6, "expected a name"))
        self.assertEqual(fault(read_source, "concept a;\naxiom k: a below"), (2, 17, "expected a concept"))


class OrderOfReasonsTest(unittest.TestCase):
    def test_unknown_character_comes_before_every_other_reason(self):
        for reader in READERS:
            self.assertEqual(fault(reader, ") ) ?"), (1, 5, "unknown character"))
            self.assertEqual(fault(reader, "concept ;\n a " + "b" * 21), (2, 4, "unknown character"))
            self.assertEqual(fault(reader, "not " * 9 + "a 1"), (1, 39, "unknown character"))
            self.assertEqual(fault(reader, chain("or", 13) + " ] "), (1, 68, "unknown character"))

    def test_a_comment_hides_every_character(self):
        self.assertEqual(read_concept("a # ? 1 " + "b" * 21), A)

    def test_the_kinds_of_values(self):
        self.assertEqual(kinds(read_source(EXAMPLE)), {tuple, str, bool})
        self.assertEqual(kinds(read_item("role r, s;")), {tuple, str})
        self.assertEqual(kinds(read_statement("r under inverse s")), {tuple, str, bool})
        self.assertEqual(kinds(read_question("never")), {tuple, str})
        self.assertEqual(kinds(read_concept("some inverse r a")), {tuple, str, bool})

    def test_lengths_of_texts(self):
        for length in (400, 401):
            for reader, text in ((read_item, "role r;"), (read_statement, "x r y"), (read_question, "never"),
                                 (read_concept, "a")):
                self.assertEqual(reader(text.ljust(length)), reader(text))
        for length in (4000, 4001):
            self.assertEqual(read_source(("role r;" * 570).ljust(length)), (("roles", ("r",)),) * 570)


class LevelTest(unittest.TestCase):
    def test_the_eighth_level(self):
        for front in ("not ", "some r ", "all inverse r ", "("):
            text = front * 8 + "a" + (")" * 8 if front == "(" else "")
            self.assertIsNone(fault(read_concept, text), text)

    def test_the_ninth_level(self):
        reason = "nested too deeply"
        self.assertEqual(fault(read_concept, "not " * 9 + "a"), (1, 33, reason))
        self.assertEqual(fault(read_concept, "some r " * 9 + "a"), (1, 57, reason))
        self.assertEqual(fault(read_concept, "all inverse r " * 9 + "a"), (1, 113, reason))
        self.assertEqual(fault(read_concept, "(" * 9 + "a" + ")" * 9), (1, 9, reason))

    def test_levels_of_all_kinds_count_together(self):
        text = "not (some r (all r (not (a or b))))"
        self.assertIsNone(fault(read_concept, text))
        for front, column in (("not ", 30), ("(", 27), ("some r ", 33), ("all r ", 32)):
            self.assertEqual(fault(read_concept, front + text), (1, column - 1, "nested too deeply"))

    def test_operands_of_and_and_or_are_no_level(self):
        self.assertIsNone(fault(read_concept, "not " * 8 + "a and " + "not " * 8 + "b"))
        self.assertIsNone(fault(read_concept, "(" * 8 + "a and b or c" + ")" * 8))

    def test_levels_end_with_what_begins_them(self):
        self.assertIsNone(fault(read_concept, "(((((((a))))))) and (((((((b)))))))"))
        self.assertEqual(fault(read_concept, "(((((((a) and ((b)))))))))"), (1, 26, "expected the end"))
        self.assertEqual(fault(read_concept, "(((((((a) and (((b))))))))))"), (1, 17, "nested too deeply"))

    def test_the_token_that_begins_the_level_comes_before_what_is_behind_it(self):
        self.assertEqual(fault(read_concept, "not " * 9), (1, 33, "nested too deeply"))
        self.assertEqual(fault(read_concept, "not " * 8 + "some"), (1, 33, "nested too deeply"))
        self.assertEqual(fault(read_concept, "not " * 8 + "all;"), (1, 33, "nested too deeply"))
        self.assertEqual(fault(read_concept, "not " * 8 + "()"), (1, 33, "nested too deeply"))
        self.assertEqual(fault(read_concept, "not " * 8 + ")"), (1, 33, "expected a concept"))
        self.assertEqual(fault(read_concept, "some r " * 7 + "some not not not"), (1, 55, "expected a name"))

    def test_in_statements_questions_and_items(self):
        deep = "not " * 9 + "a"
        reason = "nested too deeply"
        self.assertEqual(fault(read_statement, "a below " + deep), (1, 41, reason))
        self.assertEqual(fault(read_statement, deep + " below a"), (1, 33, reason))
        self.assertEqual(fault(read_statement, "domain r " + deep), (1, 42, reason))
        self.assertEqual(fault(read_question, "x is " + deep), (1, 38, reason))
        self.assertEqual(fault(read_item, "axiom k: a, " + deep), (1, 45, reason))
        self.assertEqual(fault(read_source, "concept a;\naxiom k: a, " + deep), (2, 45, reason))
        self.assertIsNone(fault(read_statement, "not " * 8 + "a below " + "not " * 8 + "a"))


class HeightTest(unittest.TestCase):
    def test_height_12(self):
        for word in ("and", "or"):
            self.assertIsNone(fault(read_concept, chain(word, 12)))
        self.assertIsNone(fault(read_concept, f"not not not ({chain('and', 9)})"))

    def test_height_13(self):
        for word in ("and", "or"):
            text = chain(word, 13)
            self.assertEqual(fault(read_concept, text), (1, len(text) + 1, "too many operators"))

    def test_anything_and_nothing_have_height_0_as_names_have(self):
        for atom in ("a", "anything", "nothing"):
            text = " and ".join([atom] * 13)
            self.assertIsNone(fault(read_concept, text))
            self.assertIsNone(fault(read_concept, f"not not not not ({' or '.join([atom] * 9)})"))
            text = f"not not not not not ({' or '.join([atom] * 9)})"
            self.assertEqual(fault(read_concept, text), (1, len(text) + 1, "too many operators"))
            text = " or ".join([atom] * 14)
            self.assertEqual(fault(read_concept, text), (1, len(text) + 1, "too many operators"))

    def test_not_some_and_all_count(self):
        for front in ("not ", "some r ", "all r "):
            self.assertIsNone(fault(read_concept, f"{front}({chain('or', 11)})"))
            text = f"{front}({chain('or', 12)})"
            self.assertEqual(fault(read_concept, text), (1, len(text) + 1, "too many operators"))

    def test_the_greatest_height_of_the_operands_counts(self):
        long, short = chain("or", 11), chain("or", 3)
        for text in (f"({long}) and ({short})", f"({short}) and ({long})"):
            self.assertIsNone(fault(read_concept, text))
            self.assertEqual(fault(read_concept, f"{text} or a"), (1, len(text) + 6, "too many operators"))

    def test_parentheses_do_not_count(self):
        self.assertIsNone(fault(read_concept, f"(((({chain('and', 12)}))))"))
        self.assertIsNone(fault(read_concept, "(((a)))" + " and ((b))" * 12))

    def test_before_another_reason_about_the_same_token(self):
        reason = "too many operators"
        high = chain("and", 13)
        behind = len(high) + 2
        for word in (")", "b", "not", ";", "below", "#"):
            column = behind + (word == "#")
            self.assertEqual(fault(read_concept, f"{high} {word}"), (1, column, reason), word)
        self.assertEqual(fault(read_statement, f"{high} apart"), (1, behind, reason))
        self.assertEqual(fault(read_statement, f"b, {high} below"), (1, behind + 3, reason))
        self.assertEqual(fault(read_question, f"{high} equals b"), (1, behind, reason))
        self.assertEqual(fault(read_item, f"axiom k: x is {high} :"), (1, behind + 14, reason))

    def test_before_a_token_that_can_follow(self):
        reason = "too many operators"
        high = chain("and", 13)
        behind = len(high) + 2
        self.assertEqual(fault(read_concept, f"{high}\n"), (2, 1, reason))
        self.assertEqual(fault(read_statement, f"{high} below b"), (1, behind, reason))
        self.assertEqual(fault(read_statement, f"{high} , b apart"), (1, behind, reason))
        self.assertEqual(fault(read_statement, f"b, {high} apart"), (1, behind + 3, reason))
        self.assertEqual(fault(read_statement, f"domain r {high} "), (1, behind + 9, reason))
        self.assertEqual(fault(read_question, f"{high} below b"), (1, behind, reason))
        self.assertEqual(fault(read_question, f"x is {high} "), (1, behind + 5, reason))
        self.assertEqual(fault(read_item, f"axiom k: a below {high} ;"), (1, behind + 17, reason))

    def test_behind_a_reason_about_an_earlier_token(self):
        high = chain("and", 13)
        behind = len(high) + 2
        self.assertEqual(fault(read_concept, f"{high} and )"), (1, behind + 4, "expected a concept"))
        self.assertEqual(fault(read_concept, f"({high} ;"), (1, behind + 1, "expected )"))
        self.assertEqual(fault(read_concept, f"({high})"), (1, behind + 1, "too many operators"))
        self.assertEqual(fault(read_concept, f"{high} or {'not ' * 9}"), (1, behind + 35, "nested too deeply"))
        self.assertEqual(fault(read_statement, f"x y z {high}"), (1, 7, "expected the end"))

    def test_each_concept_of_a_statement_counts_alone(self):
        high = chain("and", 12)
        self.assertIsNone(fault(read_statement, f"{high} below {high}"))
        self.assertIsNone(fault(read_statement, f"{high}, {high} apart"))

    def test_a_source_of_4000_characters(self):
        text = "axiom k: a below (" + "a or " * 795 + "a);"
        text += "\n" + "#" * (3999 - len(text))
        self.assertEqual(len(text), 4000)
        self.assertEqual(fault(read_source, text), (1, text.index(";") + 1, "too many operators"))


if __name__ == "__main__":
    unittest.main()
