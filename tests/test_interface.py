"""The names and arguments of the interface, and those rules of the language that a short test can tell."""

import ast
import inspect
import os
import unittest
from importlib import import_module

PACKAGE = os.path.join(os.path.dirname(os.path.dirname(os.path.abspath(__file__))), "ontoworks")
INTERFACE = {
    "ontoworks.tokens": {"place": ["text", "at"], "is_name": ["word"], "split_tokens": ["text"]},
    "ontoworks.reading": {
        "read_source": ["text"], "read_item": ["text"], "read_statement": ["text"], "read_question": ["text"],
        "read_concept": ["text"]},
    "ontoworks.printing": {
        "print_concept": ["concept"], "print_statement": ["statement"], "print_question": ["question"],
        "print_source": ["items"]},
    "ontoworks.checking": {"problems": ["text"]},
    "ontoworks.resolving": {
        "opened": ["text"], "core_concept": ["names", "concept"], "core_question": ["names", "question"],
        "parts": ["names", "statement"], "question_of": ["names", "axioms", "text"],
        "statement_of": ["names", "axioms", "text"], "concept_of": ["names", "axioms", "text"],
        "axiom_of": ["names", "axioms", "text"]},
    "ontoworks.diagrams": {
        "variable": ["number"], "negation": ["condition"], "both": ["first", "second"], "either": ["first", "second"],
        "restricted": ["condition", "number", "yes"], "chosen": ["condition", "number"],
        "renumbered": ["condition", "numbers"], "holds": ["condition", "members"], "asks": ["condition"],
        "size": ["condition"], "ways": ["condition", "count"]},
    "ontoworks.atoms": {
        "atoms": ["ontology", "questions"], "value": ["all_atoms", "held", "concept"],
        "above": ["ontology", "members", "role"],
        "can_have": ["ontology", "members", "all_atoms", "role", "first", "second"]},
    "ontoworks.search": {
        "condition": ["ontology", "question"], "conditions": ["ontology", "questions"],
        "survives": ["ontology", "members", "questions", "held"]},
    "ontoworks.models": {
        "members": ["model", "concept"], "part_fault": ["model", "part"], "breaks": ["model", "ontology", "places"],
        "answers": ["model", "question"], "smaller": ["model", "concepts"]},
    "ontoworks.countermodels": {"counter_model": ["ontology", "places", "question"]},
    "ontoworks.derivations": {
        "is_certain": ["has", "place", "concept", "holds"], "role_behind": ["ontology", "places", "role", "steps"],
        "is_right": ["ontology", "places", "before", "line"], "answers_question": ["question", "line"],
        "check": ["ontology", "places", "question", "derivation"], "named_axioms": ["derivation"]},
    "ontoworks.explaining": {"explanation": ["ontology", "places", "question"]},
    "ontoworks.reasons": {
        "all_reasons": ["condition"], "reasons": ["condition", "taken"], "repairs": ["condition", "taken"],
        "cheapest_repair": ["condition", "taken", "costs"], "blame": ["condition", "taken"],
        "shares": ["condition", "taken"], "chance": ["condition", "chances"], "right": ["condition", "chances"]},
    "ontoworks.groups": {"group": ["axioms", "place"], "module": ["axioms", "question"]},
}
METHODS = {
    "__init__": ["source"], "add": ["text"], "remove": ["name"], "take": ["name", "taken"],
    "change": ["name", "statement"], "watch": ["question"], "unwatch": ["question"], "back": [], "names": [],
    "axioms": [], "watched": [], "versions": [], "follows": ["question"], "condition": ["question"],
    "ways": ["question"], "matters": ["question"], "reasons": ["question"], "all_reasons": ["question"],
    "repairs": ["question"], "blame": ["question"], "shares": ["question"], "cheapest_repair": ["question", "costs"],
    "chance": ["question", "chances"], "right": ["question", "chances"], "compare": ["version", "question"],
    "picture": ["taken"], "relation": ["concept", "other"], "counter_model": ["question"],
    "check": ["question", "derivation"], "explain": ["question"], "breaks": ["model"], "answers": ["model", "question"],
    "members": ["model", "concept"], "smaller": ["model"], "named_axioms": ["derivation"],
}
CLASSES = {"FaultyText": ["line", "column", "reason"], "NoSuchAxiom": ["name"], "NoSuchConcept": ["name"],
           "TooLarge": ["count"]}


def files():
    """Return pairs (name, text) of all files of the package."""
    found = []
    for name in sorted(os.listdir(PACKAGE)):
        if name != "__pycache__":
            with open(os.path.join(PACKAGE, name), encoding="utf-8", newline="") as file:
                found.append((name, file.read()))
    return found


class InterfaceTest(unittest.TestCase):
    def test_functions_and_their_arguments(self):
        for module, functions in INTERFACE.items():
            for name, arguments in functions.items():
                function = getattr(import_module(module), name)
                self.assertTrue(inspect.isfunction(function), name)
                self.assertEqual(function.__module__, module)
                self.assertEqual(list(inspect.signature(function).parameters), arguments, name)

    def test_the_methods_of_the_class_are_its_own(self):
        ontology = import_module("ontoworks.ontology").Ontology
        self.assertEqual(ontology.__module__, "ontoworks.ontology")
        for name, arguments in METHODS.items():
            self.assertTrue(inspect.isfunction(vars(ontology).get(name)), name)
            self.assertEqual(list(inspect.signature(vars(ontology)[name]).parameters), ["self"] + arguments, name)

    def test_arguments_of_the_errors(self):
        module = import_module("ontoworks.errors")
        for name, arguments in CLASSES.items():
            self.assertEqual(list(inspect.signature(getattr(module, name)).parameters), arguments, name)


class FilesTest(unittest.TestCase):
    def test_the_folder_contains_python_files_alone(self):
        for name, _ in files():
            self.assertTrue(name.endswith(".py"), name)

    def test_characters_and_sizes(self):
        for name, text in files():
            self.assertTrue(all(sign == "\n" or " " <= sign <= "~" for sign in text), name)
            self.assertLessEqual(len(text.splitlines()), 399, name)
            self.assertLessEqual(max(len(line) for line in text.splitlines()), 120, name)

    def test_functions_have_at_most_40_lines(self):
        for name, text in files():
            for node in ast.walk(ast.parse(text)):
                if isinstance(node, ast.FunctionDef):
                    self.assertLessEqual(node.end_lineno - node.lineno + 1, 40, (name, node.name))

    def test_no_clock_no_random_numbers_and_no_files(self):
        for name, text in files():
            for node in ast.walk(ast.parse(text)):
                self.assertNotIsInstance(node, ast.Import, name)
                if isinstance(node, ast.ImportFrom):
                    self.assertTrue(node.module.startswith("ontoworks.") or node.module == "math", (name, node.module))
                if isinstance(node, ast.Name):
                    self.assertNotIn(node.id, ("open", "input", "print", "eval", "exec"), name)


if __name__ == "__main__":
    unittest.main()
