"""The reasons of reading, compared with the grammar of the document, for all short lists of tokens."""

import unittest

from ontoworks.reading import read_concept, read_item, read_question, read_source, read_statement
from tests.faults import fault

# Point 13, with { .. } and [ .. ] written as rules of their own. A word in lower case stands for itself.
RULES = {
    "SOURCE": ((), ("ITEM", "SOURCE")),
    "ITEM": (("concept", "NAMES", ";"), ("role", "NAMES", ";"), ("individual", "NAMES", ";"),
             ("axiom", "NAME", ":", "STATEMENT", ";")),
    "NAMES": (("NAME",), ("NAME", ",", "NAMES")),
    "STATEMENT": (("CONCEPT", "below", "CONCEPT"), ("CONCEPT", "equals", "CONCEPT"),
                  ("CONCEPT", ",", "CONCEPT", "apart"), ("domain", "ROLE", "CONCEPT"), ("range", "ROLE", "CONCEPT"),
                  ("ROLE", "under", "ROLE"), ("NAME", "inverse", "NAME"), ("NAME", "is", "CONCEPT"),
                  ("NAME", "NAME", "NAME")),
    "QUESTION": (("never",), ("CONCEPT", "below", "CONCEPT"), ("NAME", "is", "CONCEPT"), ("NAME", "NAME", "NAME")),
    "ROLE": (("NAME",), ("inverse", "NAME")),
    "CONCEPT": (("BOTH",), ("CONCEPT", "or", "BOTH")),
    "BOTH": (("FRONT",), ("BOTH", "and", "FRONT")),
    "FRONT": (("not", "FRONT"), ("some", "ROLE", "FRONT"), ("all", "ROLE", "FRONT"), ("ATOM",)),
    "ATOM": (("anything",), ("nothing",), ("NAME",), ("(", "CONCEPT", ")")),
    "NAME": (("a",),),
}
TERMINALS = sorted({word for rules in RULES.values() for rule in rules for word in rule if word not in RULES})


def closure(states, sets, position):
    """Return all states (left, right, dot, origin) of an Earley set that begins with some states."""
    found = list(states)
    for left, right, dot, origin in found:
        new = []
        if dot == len(right):
            waiting = found if origin == position else sets[origin]
            new = [(up, rule, at + 1, start) for up, rule, at, start in waiting
                   if at < len(rule) and rule[at] == left]
        elif right[dot] in RULES:
            new = [(right[dot], rule, 0, position) for rule in RULES[right[dot]]]
            # A form that may be empty is passed over at once.
            if () in RULES[right[dot]]:
                new.append((left, right, dot + 1, origin))
        found += [state for state in new if state not in found]
    return found


def followers(states, form):
    """Return the set of the words that can follow, the empty string for the end."""
    can = {right[dot] for _, right, dot, _ in states if dot < len(right) and right[dot] not in RULES}
    if any(left == form and dot == len(right) and origin == 0 for left, right, dot, origin in states):
        can.add("")
    return can


def reason(can, form):
    """Return the reason of point 15 where only these words can follow."""
    for word, text in (("axiom", "expected concept, role, individual or axiom"), ("anything", "expected a concept"),
                       (")", "expected )"), ("equals", "expected below, equals or ,"), ("below", "expected below"),
                       ("apart", "expected apart"), (";", "expected ;"), (":", "expected :"),
                       ("", "expected the end"), ("under", "expected under"), ("a", "expected a name")):
        if word in can:
            return text
    raise AssertionError((can, form))


class GrammarTest(unittest.TestCase):
    def check(self, reader, form, depth):
        """Compare a reader with the grammar for all lists of tokens, up to a length, that can be gone on with."""
        start = closure([(form, rule, 0, 0) for rule in RULES[form]], [], 0)
        pending = [((), (start,))]
        for words, sets in pending:
            can = followers(sets[-1], form)
            text = " ".join(words)
            for word in [*TERMINALS, ""]:
                whole = f"{text} {word}"
                told = fault(reader, whole)
                if word not in can:
                    self.assertEqual(told, (1, len(text) + 2, reason(can, form)), whole)
                elif word == "":
                    self.assertIsNone(told, whole)
                else:
                    self.assertTrue(told is None or told[1] == len(whole) + 1, whole)
            if len(words) < depth:
                for word in sorted(can - {""}):
                    moved = [(left, right, dot + 1, origin) for left, right, dot, origin in sets[-1]
                             if dot < len(right) and right[dot] == word]
                    pending.append((words + (word,), sets + (closure(moved, sets, len(words) + 1),)))

    def test_sources(self):
        self.check(read_source, "SOURCE", 5)

    def test_items(self):
        self.check(read_item, "ITEM", 6)

    def test_statements(self):
        self.check(read_statement, "STATEMENT", 4)

    def test_questions(self):
        self.check(read_question, "QUESTION", 4)

    def test_concepts(self):
        self.check(read_concept, "CONCEPT", 5)


if __name__ == "__main__":
    unittest.main()
