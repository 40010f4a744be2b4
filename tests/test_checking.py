import unittest

from ontoworks.checking import problems
from tests.faults import EXAMPLE, kinds

WORDS = ("concept", "role", "individual")
# Each statement, and what its names have to be, in the order of the text.
STATEMENTS = (
    ("a below b", "cc"),
    ("a equals b", "cc"),
    ("a, b apart", "cc"),
    ("domain a b", "rc"),
    ("domain inverse a b", "rc"),
    ("range a b", "rc"),
    ("range inverse a b", "rc"),
    ("a under b", "rr"),
    ("inverse a under inverse b", "rr"),
    ("a inverse b", "rr"),
    ("a is b", "ic"),
    ("a b d", "iri"),
    ("a and b below d and e", "cccc"),
    ("a or b equals d or e", "cccc"),
    ("a and (b or d), not e apart", "cccc"),
    ("some a b below all d e", "rcrc"),
    ("some inverse a b below all inverse d e", "rcrc"),
    ("some a all b d below nothing", "rrc"),
    ("anything below a and some b d", "crc"),
    ("a is b or some d e", "icrc"),
)
KINDS = {"c": "concept", "r": "role", "i": "individual"}


def names(first, last, start=""):
    """Return names with numbers, from the first number to the last one, with commas between them."""
    return ", ".join(f"{start}{number}" for number in range(first, last + 1))


def axioms(first, last):
    """Return a source of axioms with numbers, a line for each one."""
    return "".join(f"axiom k{number}: a below a;\n" for number in range(first, last + 1))


def wanted_names(letters):
    """Return the pairs (name, word of its kind) of the names in one of the statements."""
    return [(name, KINDS[letter]) for name, letter in zip("abde", letters)]


def declarations(wanted):
    """Return items, on one line, for pairs (name, word of its kind)."""
    return " ".join(f"{word} {name};" for name, word in wanted)


class ReadingFirstTest(unittest.TestCase):
    def test_the_example_of_the_document(self):
        self.assertEqual(problems("concept a, a;\naxiom k: a below b;"),
                         ((1, 1, "declared twice: a"), (2, 1, "unknown concept: a")))

    def test_sources_without_a_problem(self):
        for text in ("", " \n ", "# nothing here", "concept a;", EXAMPLE):
            self.assertEqual(problems(text), (), text)

    def test_a_source_that_cannot_be_read_tells_its_first_reason_alone(self):
        for text, told in (("concept a, a;\nconcept ;\nrole", (2, 9, "expected a name")),
                           ("axiom k: x below y;\nconcept b", (2, 10, "expected ;")),
                           ("concept a, a; thing", (1, 15, "expected concept, role, individual or axiom")),
                           ("concept a, a;\nconcept ;\n$", (3, 1, "unknown character")),
                           ("axiom k: a b", (1, 13, "expected a name"))):
            self.assertEqual(problems(text), (told,), text)

    def test_what_is_returned_has_tuples_integers_and_strings_alone(self):
        self.assertEqual(kinds(problems("concept a, a;\naxiom k: a below b;")), {tuple, int, str})
        self.assertEqual(kinds(problems("concept")), {tuple, int, str})


class PlaceTest(unittest.TestCase):
    def test_the_place_is_that_of_the_first_token_of_the_item(self):
        text = "concept a; # first\n\n  # a again\n  concept b,\n a; role\nb, a;axiom a: a below a;"
        self.assertEqual(problems(text), ((4, 3, "declared twice: a"), (5, 5, "declared twice: a"),
                                          (6, 6, "declared twice: a")))

    def test_each_item_has_at_most_one_problem(self):
        self.assertEqual(problems("concept a, a, b, b;\naxiom k: x below y;"),
                         ((1, 1, "declared twice: a"), (2, 1, "unknown concept: x")))


class DeclaredTwiceTest(unittest.TestCase):
    def test_each_kind_behind_each_kind(self):
        ways = [f"{word} it;" for word in WORDS] + ["axiom it: anything below anything;"]
        for first in ways:
            for second in ways:
                self.assertEqual(problems(f"{first}\n{second}"), ((2, 1, "declared twice: it"),), (first, second))

    def test_twice_within_one_declaration(self):
        for word in WORDS:
            self.assertEqual(problems(f"{word} a, b, a;"), ((1, 1, "declared twice: a"),))
            self.assertEqual(problems(f"{word} a, b, b, a;"), ((1, 1, "declared twice: b"),))

    def test_an_axiom_may_not_have_the_name_of_what_it_speaks_about(self):
        self.assertEqual(problems("concept a; axiom a: a below a;"), ((1, 12, "declared twice: a"),))

    def test_upper_and_lower_case_differ(self):
        self.assertEqual(problems("concept a, A; role Aa, aA;"), ())

    def test_an_item_with_a_problem_declares_nothing(self):
        self.assertEqual(problems("concept b, a, a;\nrole a;\nindividual b;"), ((1, 1, "declared twice: a"),))
        self.assertEqual(problems("concept a;\nconcept b, a;\naxiom k: b below a;\nconcept b;"),
                         ((2, 1, "declared twice: a"), (3, 1, "unknown concept: b")))
        self.assertEqual(problems("axiom k: x below x;\nconcept k;"), ((1, 1, "unknown concept: x"),))
        self.assertEqual(problems("axiom k: x below x;\naxiom k: anything below nothing;"),
                         ((1, 1, "unknown concept: x"),))

    def test_twice_comes_before_too_many(self):
        self.assertEqual(problems(f"concept {names(1, 8, 'a')};\nconcept a3;"), ((2, 1, "declared twice: a3"),))
        self.assertEqual(problems(f"concept {names(1, 8, 'a')}, a8, a9;"), ((1, 1, "declared twice: a8"),))
        self.assertEqual(problems(f"role {names(1, 4, 'a')};\nconcept b;\nrole b;"), ((3, 1, "declared twice: b"),))
        self.assertEqual(problems(f"concept a;\n{axioms(1, 10)}axiom k3: x below x;"),
                         ((12, 1, "declared twice: k3"),))

    def test_names_are_looked_at_one_by_one(self):
        self.assertEqual(problems(f"concept {names(1, 9, 'a')}, a1;"), ((1, 1, "too many concepts"),))
        self.assertEqual(problems(f"role {names(1, 5, 'a')}, a1;"), ((1, 1, "too many roles"),))


class TooManyTest(unittest.TestCase):
    def test_the_last_one_and_one_more(self):
        for word, most in zip(WORDS, (8, 4, 4)):
            told = f"too many {word}s"
            self.assertEqual(problems(f"{word} {names(1, most, 'a')};"), ())
            self.assertEqual(problems(f"{word} {names(1, most + 1, 'a')};"), ((1, 1, told),))
            self.assertEqual(problems(f"{word} {names(1, most - 1, 'a')};\n{word} b;"), ())
            self.assertEqual(problems(f"{word} {names(1, most, 'a')};\n{word} b;\n{word} c;"),
                             ((2, 1, told), (3, 1, told)))
            self.assertEqual(problems(f"{word} {names(1, most - 1, 'a')};\n{word} b, c;\n{word} c;\n{word} b;"),
                             ((2, 1, told), (4, 1, told)))

    def test_each_kind_counts_by_itself(self):
        text = f"concept {names(1, 8, 'a')}; role {names(1, 4, 'r')}; individual {names(1, 4, 'i')}; concept b;"
        self.assertEqual([reason for _, _, reason in problems(text)], ["too many concepts"])
        self.assertEqual(problems(text.replace("concept b;", "role b;"))[0][2], "too many roles")
        self.assertEqual(problems(text.replace("concept b;", "individual b;"))[0][2], "too many individuals")
        self.assertEqual(problems(text.replace("concept b;", axioms(1, 10).replace("a below a", "a1 below a2"))), ())

    def test_axioms(self):
        self.assertEqual(problems(f"concept a;\n{axioms(1, 10)}"), ())
        self.assertEqual(problems(f"concept a;\n{axioms(1, 12)}"),
                         ((12, 1, "too many axioms"), (13, 1, "too many axioms")))

    def test_too_many_axioms_comes_before_unknown_names(self):
        self.assertEqual(problems(f"concept a;\n{axioms(1, 10)}axiom more: x below x;"),
                         ((12, 1, "too many axioms"),))

    def test_an_item_with_a_problem_does_not_count(self):
        self.assertEqual(problems(f"concept {names(1, 7, 'a')};\nconcept b, a1;\nconcept b;"),
                         ((2, 1, "declared twice: a1"),))
        self.assertEqual(problems(f"concept a;\n{axioms(1, 9)}axiom k: x below x;\naxiom k: a below a;"),
                         ((11, 1, "unknown concept: x"),))


class UnknownTest(unittest.TestCase):
    def test_the_first_unknown_name_in_the_order_of_the_text(self):
        for statement, letters in STATEMENTS:
            wanted = wanted_names(letters)
            self.assertEqual(problems(f"{declarations(wanted)} axiom k: {statement};"), (), statement)
            for known, (name, word) in enumerate(wanted):
                text = f"{declarations(wanted[:known])}\naxiom k: {statement};"
                self.assertEqual(problems(text), ((2, 1, f"unknown {word}: {name}"),), text)

    def test_only_one_name_is_unknown(self):
        for statement, letters in STATEMENTS:
            wanted = wanted_names(letters)
            for at, (name, word) in enumerate(wanted):
                text = f"{declarations(wanted[:at] + wanted[at + 1:])}\naxiom k: {statement};"
                self.assertEqual(problems(text), ((2, 1, f"unknown {word}: {name}"),), text)

    def test_a_name_that_is_declared_as_something_else(self):
        for statement, letters in STATEMENTS:
            wanted = wanted_names(letters)
            for at, (name, word) in enumerate(wanted):
                for other in WORDS:
                    if other != word:
                        changed = wanted[:at] + [(name, other)] + wanted[at + 1:]
                        text = f"{declarations(changed)}\naxiom k: {statement};"
                        self.assertEqual(problems(text), ((2, 1, f"unknown {word}: {name}"),), text)

    def test_the_name_of_an_axiom_is_none_of_them(self):
        self.assertEqual(problems("concept a; axiom k: a below a; axiom l: k below a;"),
                         ((1, 32, "unknown concept: k"),))
        self.assertEqual(problems("axiom k: k below k;"), ((1, 1, "unknown concept: k"),))

    def test_a_name_that_is_declared_later(self):
        self.assertEqual(problems("axiom k: a below a; concept a; axiom l: a below a;"),
                         ((1, 1, "unknown concept: a"),))

    def test_statements_without_names(self):
        self.assertEqual(problems("axiom k: anything below nothing; axiom l: not anything, nothing apart;"), ())


if __name__ == "__main__":
    unittest.main()
