import unittest

from ontoworks.errors import FaultyText
from ontoworks.printing import print_concept, print_question, print_source, print_statement
from ontoworks.reading import read_concept, read_item, read_question, read_source, read_statement

A = ("name", "a")
B = ("name", "b")
C = ("name", "c")
R = ("r", False)
BACK = ("r", True)


def pairs_of_parentheses(text):
    """Return the pairs of the indexes of parentheses that belong together."""
    begun, found = [], []
    for at, sign in enumerate(text):
        if sign == "(":
            begun.append(at)
        elif sign == ")":
            found.append((begun.pop(), at))
    return found


def concepts_over(operands):
    """Return all written concepts with one operator over some operands."""
    return ([("not", c) for c in operands]
            + [(word, role, c) for word in ("some", "all") for role in (R, BACK) for c in operands]
            + [(word, c, d) for word in ("and", "or") for c in operands for d in operands])


class ConceptTest(unittest.TestCase):
    def check(self, cases):
        for tree, text in cases:
            self.assertEqual(print_concept(tree), text)
            self.assertEqual(read_concept(text), tree)

    def test_the_example_of_the_document(self):
        self.check([(("and", A, ("or", B, C)), "a and (b or c)")])

    def test_without_parentheses(self):
        self.check([
            (A, "a"), (("anything",), "anything"), (("nothing",), "nothing"), (("not", A), "not a"),
            (("some", R, A), "some r a"), (("all", BACK, ("nothing",)), "all inverse r nothing"),
            (("and", A, B), "a and b"), (("or", A, B), "a or b"),
            (("not", ("some", R, ("all", R, ("not", A)))), "not some r all r not a"),
        ])

    def test_operands_of_and(self):
        self.check([
            (("and", ("and", A, B), C), "a and b and c"), (("and", A, ("and", B, C)), "a and (b and c)"),
            (("and", ("or", A, B), C), "(a or b) and c"), (("and", A, ("or", B, C)), "a and (b or c)"),
            (("and", ("not", A), ("not", B)), "not a and not b"),
            (("and", ("some", R, A), ("all", R, B)), "some r a and all r b"),
        ])

    def test_operands_of_or(self):
        self.check([
            (("or", ("or", A, B), C), "a or b or c"), (("or", A, ("or", B, C)), "a or (b or c)"),
            (("or", ("and", A, B), C), "a and b or c"), (("or", A, ("and", B, C)), "a or b and c"),
            (("or", ("not", A), ("some", R, B)), "not a or some r b"),
        ])

    def test_operands_of_not_some_and_all(self):
        self.check([
            (("not", ("and", A, B)), "not (a and b)"), (("not", ("or", A, B)), "not (a or b)"),
            (("not", ("not", A)), "not not a"),
            (("some", R, ("and", A, B)), "some r (a and b)"), (("some", BACK, ("or", A, B)), "some inverse r (a or b)"),
            (("all", R, ("and", A, B)), "all r (a and b)"), (("all", R, ("or", A, B)), "all r (a or b)"),
            (("all", R, ("some", R, A)), "all r some r a"), (("some", R, ("anything",)), "some r anything"),
        ])

    def test_parentheses_in_parentheses(self):
        self.check([
            (("not", ("and", ("or", A, B), C)), "not ((a or b) and c)"),
            (("and", A, ("and", B, ("or", C, A))), "a and (b and (c or a))"),
            (("and", ("or", A, ("or", B, C)), ("not", ("and", A, B))), "(a or (b or c)) and not (a and b)"),
        ])

    def test_needless_parentheses_and_blanks_and_comments_go(self):
        for text, canonical in (
            ("((a))", "a"), ("(a and b) and c", "a and b and c"), ("(a and b)or(c)", "a and b or c"),
            ("not(a)", "not a"), ("a\nor # b\n( b or c )", "a or (b or c)"), ("some r(some r((a)))", "some r some r a"),
        ):
            self.assertEqual(print_concept(read_concept(text)), canonical)

    def test_what_is_printed_is_read_back_and_no_parenthesis_is_needless(self):
        small = [A, B, ("anything",), ("nothing",)]
        middle = small[:1] + concepts_over([A, ("nothing",)])
        for tree in small + concepts_over(small) + concepts_over(middle):
            text = print_concept(tree)
            self.assertEqual(read_concept(text), tree)
            for begin, end in pairs_of_parentheses(text):
                without = text[:begin] + text[begin + 1:end] + text[end + 1:]
                try:
                    self.assertNotEqual(read_concept(without), tree, text)
                except FaultyText:
                    pass

    def test_the_greatest_height_and_the_deepest_level(self):
        for text in (" and ".join(["a"] * 13), "not " * 8 + "a", "not " * 7 + "(a or b)",
                     "a and (" * 8 + "b or c" + ")" * 8):
            self.assertEqual(print_concept(read_concept(text)), text)


class StatementTest(unittest.TestCase):
    def test_the_forms(self):
        for tree, text in (
            (("below", A, B), "a below b"), (("equals", A, B), "a equals b"), (("apart", A, B), "a, b apart"),
            (("domain", R, A), "domain r a"), (("domain", BACK, A), "domain inverse r a"),
            (("range", R, A), "range r a"), (("range", BACK, A), "range inverse r a"),
            (("under", R, ("s", False)), "r under s"), (("under", BACK, ("s", False)), "inverse r under s"),
            (("under", R, ("s", True)), "r under inverse s"),
            (("under", BACK, ("s", True)), "inverse r under inverse s"),
            (("inverse", "r", "s"), "r inverse s"), (("is", "x", A), "x is a"), (("has", "x", "r", "y"), "x r y"),
        ):
            self.assertEqual(print_statement(tree), text)
            self.assertEqual(read_statement(text), tree)

    def test_concepts_of_statements_stand_without_parentheses(self):
        first, second = ("or", A, ("or", B, C)), ("and", ("or", A, B), C)
        for tree, text in (
            (("below", first, second), "a or (b or c) below (a or b) and c"),
            (("equals", second, first), "(a or b) and c equals a or (b or c)"),
            (("apart", first, first), "a or (b or c), a or (b or c) apart"),
            (("apart", second, ("not", second)), "(a or b) and c, not ((a or b) and c) apart"),
            (("domain", R, second), "domain r (a or b) and c"),
            (("range", BACK, first), "range inverse r a or (b or c)"),
            (("is", "x", second), "x is (a or b) and c"),
        ):
            self.assertEqual(print_statement(tree), text)
            self.assertEqual(read_statement(text), tree)


class QuestionTest(unittest.TestCase):
    def test_the_forms(self):
        for tree, text in (
            (("never",), "never"), (("below", A, B), "a below b"),
            (("below", ("or", A, B), ("not", ("or", A, B))), "a or b below not (a or b)"),
            (("is", "x", ("some", BACK, A)), "x is some inverse r a"), (("has", "x", "r", "y"), "x r y"),
        ):
            self.assertEqual(print_question(tree), text)
            self.assertEqual(read_question(text), tree)


class SourceTest(unittest.TestCase):
    def test_without_items(self):
        self.assertEqual(print_source(()), "")
        self.assertEqual(print_source(read_source(" \n# a\n")), "")

    def test_each_item_is_a_line(self):
        items = (
            ("concepts", ("a",)), ("concepts", ("b", "c")), ("roles", ("r", "s", "t")), ("individuals", ("x",)),
            ("axiom", "k", ("apart", A, ("or", B, C))), ("axiom", "l", ("has", "x", "r", "x")),
        )
        text = ("concept a;\nconcept b, c;\nrole r, s, t;\nindividual x;\n"
                "axiom k: a, b or c apart;\naxiom l: x r x;\n")
        self.assertEqual(print_source(items), text)
        self.assertEqual(read_source(text), items)

    def test_one_item(self):
        text = print_source((("axiom", "k", ("domain", BACK, ("and", A, ("and", B, C)))),))
        self.assertEqual(text, "axiom k: domain inverse r a and (b and c);\n")
        self.assertEqual(read_item(text), ("axiom", "k", ("domain", BACK, ("and", A, ("and", B, C)))))

    def test_spaces_and_lines_of_the_text_that_was_read_go(self):
        text = "concept a,b ; role\nr;axiom k:a ,( b )apart;# end"
        self.assertEqual(print_source(read_source(text)), "concept a, b;\nrole r;\naxiom k: a, b apart;\n")

    def test_items_come_in_their_order(self):
        text = "axiom k: a below b;\nrole r;\nconcept a;\nconcept a;\n"
        self.assertEqual(print_source(read_source(text)), text)

    def test_every_form_of_statement(self):
        statements = (
            "a below b", "a equals not (a or b)", "a and (b or c), c apart", "domain inverse r a or b",
            "range s not a", "inverse r under s", "r under inverse s", "r inverse s", "x is all r (a and b)", "x r y",
        )
        text = "".join(f"axiom k{at}: {statement};\n" for at, statement in enumerate(statements))
        self.assertEqual(print_source(read_source(text)), text)


class ValuesTest(unittest.TestCase):
    def test_strings_are_returned_and_arguments_stay(self):
        concept = ("and", ("some", BACK, A), ("or", B, C))
        for function, tree in ((print_concept, concept), (print_statement, ("equals", concept, A)),
                               (print_question, ("below", concept, A)),
                               (print_source, (("roles", ("r", "s")), ("axiom", "k", ("is", "x", concept))))):
            before = repr(tree)
            self.assertIs(type(function(tree)), str)
            self.assertEqual(repr(tree), before)


if __name__ == "__main__":
    unittest.main()
