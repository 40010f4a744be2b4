import random
import unittest

from ontoworks.atoms import atoms
from ontoworks.diagrams import holds, restricted
from ontoworks.errors import (
    AlreadyWatched, NoSuchAxiom, NoSuchVersion, NothingToTakeBack, NotWatched, TooLarge, TooManyQuestions)
from ontoworks.groups import module
from ontoworks.ontology import Ontology
from ontoworks.printing import print_question, print_statement
from ontoworks.reading import read_question, read_statement
from ontoworks.reasons import all_reasons
from ontoworks.resolving import core_question, parts
from ontoworks.search import condition
from tests.faults import fault

ALWAYS = ((), 1)
HEAD = "concept a, b, c, d; role r, s; individual i, j;\n"
CHAIN = HEAD + "axiom p: a below b; axiom q: b below c;"
NAMES = (("a", "b", "c", "d"), ("r", "s"), ("i", "j"))
QUESTIONS = ("a below c", "never", "i is c", "i s j", "d below some r d", "b below c or d", "anything below anything",
             "(a) below c", "j is b", "i r j")
STATEMENTS = ("a below b", "b below c", "a below c", "a equals b", "i is a", "i is not b", "i r j", "r under s",
              "d below d", "d below some r anything", "range r d", "anything below a", "anything below anything",
              "s inverse r", "not b below not a", "all s d below d", "c, d apart", "domain r b",
              "some r anything below b")


def subsets(members):
    found = [()]
    for member in members:
        found += [one + (member,) for one in found]
    return found


def tree_of(question):
    return core_question(NAMES, read_question(question))


def core_of(rows):
    """Return the ontology of the axioms of a version, as triples (identity, name, statement, taken)."""
    return tuple(parts(NAMES, read_statement(statement)) for _, _, statement, _ in rows), 2


class Telling:
    """What a version tells of the questions that are watched: each condition is found anew."""

    def __init__(self, rows, watched):
        self.rows = rows
        self.watched = watched
        self.ontology = core_of(rows)
        self.found = {}

    def condition(self, tree):
        if tree not in self.found:
            self.found[tree] = condition(self.ontology, tree)
        return self.found[tree]

    def follows(self, tree):
        return holds(self.condition(tree), tuple(place for place, row in enumerate(self.rows) if row[3]))

    def says(self, tree, identities):
        """Tell what the condition says to the axioms of the version with some identities."""
        return holds(self.condition(tree), tuple(place for place, row in enumerate(self.rows) if row[0] in identities))


def news(earlier, later):
    identities = sorted({row[0] for row in earlier.rows + later.rows})
    found = []
    for text, tree in later.watched:
        if tree in [other for _, other in earlier.watched]:
            differ = any(earlier.says(tree, some) != later.says(tree, some) for some in subsets(identities))
            found.append((text, earlier.follows(tree), later.follows(tree), differ))
    return tuple(found)


def lost(first, second, tree):
    found = []
    for reason in all_reasons(first.condition(tree)):
        if not second.says(tree, [first.rows[place][0] for place in reason]):
            found.append(tuple(first.rows[place][1] for place in reason))
    return tuple(found)


def run(before, after, place):
    """Return the texts of the watched questions that are run when an axiom has been added or changed."""
    found = []
    for text, tree in after.watched:
        if (place in module(after.ontology[0], tree)
                and restricted(before.condition(tree), place, False) != ALWAYS):
            found.append(text)
    return tuple(found)


class Shadow:
    """An ontology that is kept in the plainest way, to compare another one with."""

    def __init__(self, statements):
        self.versions = [Telling(tuple((at, f"k{at}", text, True) for at, text in enumerate(statements)), ())]
        self.identities = len(statements)

    def now(self):
        return self.versions[-1]

    def go(self, rows, watched, place=None):
        before, after = self.now(), Telling(rows, watched)
        ran = () if place is None else run(before, after, place)
        new = tuple(text for text, tree in watched if tree not in [other for _, other in before.watched])
        self.versions = (self.versions + [after])[-11:]
        return new + ran, news(before, after)

    def add(self, name, text):
        now = self.now()
        self.identities += 1
        return self.go(now.rows + ((self.identities, name, text, True),), now.watched, len(now.rows))

    def change(self, place, text):
        now = self.now()
        identity, name, old, taken = now.rows[place]
        rows = now.rows[:place] + ((identity, name, text, taken),) + now.rows[place + 1:]
        same = parts(NAMES, read_statement(old)) == parts(NAMES, read_statement(text))
        return self.go(rows, now.watched, None if same else place)

    def remove(self, place):
        now = self.now()
        return self.go(now.rows[:place] + now.rows[place + 1:], now.watched)

    def take(self, place, taken):
        now = self.now()
        rows = now.rows[:place] + (now.rows[place][:3] + (taken,),) + now.rows[place + 1:]
        return self.go(rows, now.watched)

    def back(self):
        left = self.versions.pop()
        return news(left, self.now())


class RandomChangesTest(unittest.TestCase):
    """All kinds of changes one after the other, each compared with what the points 65 to 71 say."""

    def compare(self, onto, shadow, chosen):
        now = shadow.now()
        self.assertEqual(onto.axioms(), tuple((name, print_statement(read_statement(text)), taken)
                                              for _, name, text, taken in now.rows))
        self.assertEqual(onto.watched(), tuple((text, now.follows(tree)) for text, tree in now.watched))
        self.assertEqual(onto.versions(), len(shadow.versions) - 1)
        names = [row[1] for row in now.rows]
        for text, tree in now.watched:
            nodes, root = now.condition(tree)
            wanted = (tuple((names[number], without, within) for number, without, within in nodes), root)
            self.assertEqual(onto.condition(text), wanted)
        version = chosen.randrange(len(shadow.versions))
        text = chosen.choice(QUESTIONS)
        other, tree = shadow.versions[-1 - version], tree_of(text)
        self.assertEqual(onto.compare(version, text), (lost(other, now, tree), lost(now, other, tree)))

    def change(self, onto, shadow, chosen, name):
        """Change both in the same way, and return what the two changes return."""
        rows = shadow.now().rows
        kind = chosen.random()
        text = chosen.choice(STATEMENTS)
        if kind < 0.25 and len(rows) < 6 or not rows:
            return onto.add(f"axiom {name}: {text};"), shadow.add(name, text)
        place = chosen.randrange(len(rows))
        old = rows[place][1]
        if kind < 0.5:
            return onto.change(old, text), shadow.change(place, text)
        if kind < 0.6:
            return onto.remove(old), shadow.remove(place)
        if kind < 0.75:
            taken = chosen.random() < 0.5
            return onto.take(old, taken), shadow.take(place, taken)
        return self.ask(onto, shadow, chosen)

    def ask(self, onto, shadow, chosen):
        """Watch a question in both, or watch it no more."""
        now = shadow.now()
        text = chosen.choice(QUESTIONS)
        tree = tree_of(text)
        if tree in [other for _, other in now.watched]:
            rest = tuple(pair for pair in now.watched if pair[1] != tree)
            return onto.unwatch(text), shadow.go(now.rows, rest)
        if len(now.watched) == 6:
            with self.assertRaises(TooManyQuestions):
                onto.watch(text)
            return None, None
        more = now.watched + ((print_question(read_question(text)), tree),)
        return onto.watch(text), shadow.go(now.rows, more)

    def test_many_changes(self):
        for seed in range(25):
            chosen = random.Random(seed)
            statements = [chosen.choice(STATEMENTS) for _ in range(4)]
            onto = Ontology(HEAD + "".join(f"axiom k{at}: {text};\n" for at, text in enumerate(statements)))
            shadow = Shadow(statements)
            for text in QUESTIONS[:3]:
                tree = tree_of(text)
                self.assertEqual(onto.watch(text), shadow.go(shadow.now().rows, shadow.now().watched + ((text, tree),)))
            for step in range(22):
                if chosen.random() < 0.2 and len(shadow.versions) > 1:
                    self.assertEqual(onto.back(), shadow.back())
                else:
                    found, wanted = self.change(onto, shadow, chosen, f"n{seed}_{step}")
                    self.assertEqual(found, wanted, (seed, step))
                self.compare(onto, shadow, chosen)


class AddTest(unittest.TestCase):
    def test_the_example_of_the_document(self):
        onto = Ontology("concept a, b, c; axiom p: a below b; axiom q: b below c;")
        self.assertEqual(onto.watch("a below c"), (("a below c",), ()))
        self.assertEqual(onto.add("axiom r: a below c;"), (("a below c",), (("a below c", True, True, True),)))
        self.assertEqual(onto.take("q", False), ((), (("a below c", True, True, False),)))
        self.assertEqual(onto.compare(2, "a below c"), ((), (("r",),)))

    def test_it_stands_behind_all_others_and_is_taken(self):
        onto = Ontology(CHAIN)
        onto.take("p", False)
        self.assertEqual(onto.add(" axiom a_: a below (b) ;"), ((), ()))
        self.assertEqual(onto.axioms(), (
            ("p", "a below b", False), ("q", "b below c", True), ("a_", "a below b", True)))

    def test_errors(self):
        onto = Ontology(CHAIN)
        for text, wanted in (
                ("", (1, 1, "expected concept, role, individual or axiom")),
                ("a below b", (1, 1, "expected concept, role, individual or axiom")),
                ("concept e;", (1, 1, "expected axiom")), (" role a;", (1, 2, "expected axiom")),
                ("axiom p: a below b;", (1, 1, "declared twice: p")),
                ("axiom a: a below b;", (1, 1, "declared twice: a")),
                ("axiom x: a below e;", (1, 1, "unknown concept: e")),
                ("axiom x: a below b; axiom y: b below a;", (1, 21, "expected the end"))):
            self.assertEqual(fault(onto.add, text), wanted, text)
        self.assertEqual(onto.versions(), 0)

    def test_too_many_axioms_and_a_name_that_is_free_again(self):
        onto = Ontology(CHAIN)
        for number in range(8):
            onto.add(f"axiom x{number}: a below b;")
        self.assertEqual(fault(onto.add, "axiom y: a below b;"), (1, 1, "too many axioms"))
        self.assertEqual(fault(onto.add, "axiom x7: a below b;"), (1, 1, "declared twice: x7"))
        onto.remove("x7")
        onto.add("axiom x7: a below b;")
        self.assertEqual(len(onto.axioms()), 10)

    def test_too_large(self):
        onto = Ontology(CHAIN)
        onto.watch("a below c")
        wide = " and ".join(f"some {role} {name}" for role in "rs" for name in "abcd")
        onto.add(f"axiom x: {wide} below d;")
        before = (onto.axioms(), onto.watched(), onto.versions(), onto.condition("a below c"))
        with self.assertRaises(TooLarge) as caught:
            onto.add("axiom y: some r anything below some r (a or b);")
        self.assertEqual(caught.exception.count, 14)
        self.assertEqual(fault(onto.add, "axiom y: some r anything below some r (a or b) and e;"),
                         (1, 1, "unknown concept: e"))
        self.assertEqual((onto.axioms(), onto.watched(), onto.versions(), onto.condition("a below c")), before)

    def test_axioms_that_are_not_taken_count(self):
        onto = Ontology(CHAIN)
        wide = " and ".join(f"some {role} {name}" for role in "rs" for name in "abcd")
        onto.add(f"axiom x: {wide} below d;")
        onto.take("x", False)
        with self.assertRaises(TooLarge) as caught:
            onto.add("axiom y: a below some r anything;")
        self.assertEqual(caught.exception.count, 13)
        onto.remove("x")
        self.assertEqual(onto.add("axiom y: a below some r anything;"), ((), ()))


class RunTest(unittest.TestCase):
    def test_to_add_outside_of_the_module(self):
        onto = Ontology(CHAIN)
        onto.watch("a below c")
        self.assertEqual(onto.add("axiom x: d below some r anything;"), ((), (("a below c", True, True, False),)))
        # Now d links the axioms with the question.
        self.assertEqual(onto.add("axiom y: c below d;"), (("a below c",), (("a below c", True, True, False),)))

    def test_to_add_what_makes_never_follow(self):
        onto = Ontology(CHAIN)
        onto.watch("c below a")
        onto.watch("never")
        # The question is not run, though it follows now.
        self.assertEqual(onto.add("axiom x: anything below nothing;"),
                         ((), (("c below a", False, True, True), ("never", False, True, True))))
        self.assertEqual(onto.condition("c below a"), ((("x", 0, 1),), 2))
        self.assertEqual(onto.condition("never"), ((("x", 0, 1),), 2))

    def test_to_add_what_makes_never_follow_together_with_others(self):
        onto = Ontology(HEAD + "axiom p: i is a; axiom q: c below d;")
        onto.watch("d below c")
        onto.watch("i is a and b")
        onto.watch("j is b")
        self.assertEqual(onto.add("axiom x: a below nothing;"),
                         (("i is a and b",), (("d below c", False, True, True), ("i is a and b", False, True, True),
                                              ("j is b", False, True, True))))
        self.assertEqual(onto.condition("d below c"), ((("x", 0, 1), ("p", 0, 2)), 3))

    def test_to_add_where_the_condition_is_always(self):
        onto = Ontology(CHAIN)
        onto.watch("a below a or c")
        self.assertEqual(onto.add("axiom x: a below c;"), ((), (("a below a or c", True, True, False),)))
        self.assertEqual(onto.condition("a below a or c"), ALWAYS)

    def test_to_change(self):
        onto = Ontology(CHAIN)
        onto.watch("a below c")
        onto.watch("d below c")
        onto.watch("anything below anything")
        self.assertEqual(onto.change("q", "c below b"), (
            ("a below c", "d below c"),
            (("a below c", True, False, True), ("d below c", False, False, False),
             ("anything below anything", True, True, False))))
        # Without the axiom q the condition of the last one is always; it has no name in it anyway.
        self.assertEqual(onto.change("q", "d below d")[0], ("d below c",))
        self.assertEqual(onto.change("p", "some r a below some r a")[0], ("a below c",))

    def test_to_change_where_the_condition_without_the_axiom_is_always(self):
        onto = Ontology(CHAIN + "axiom x: anything below c;")
        onto.watch("a below c")
        onto.watch("a below a")
        self.assertEqual(onto.change("p", "b below a")[0], ("a below c",))
        self.assertEqual(onto.condition("a below a"), ALWAYS)

    def test_to_change_to_the_same_parts(self):
        onto = Ontology(HEAD + "axiom p: all r a below c; axiom q: domain r b;")
        onto.watch("some r anything below b")
        self.assertEqual(onto.change("q", "some r anything below b"),
                         ((), (("some r anything below b", True, True, False),)))
        self.assertEqual(onto.change("p", "not some r not a below c"),
                         ((), (("some r anything below b", True, True, False),)))
        self.assertEqual(onto.axioms(), (
            ("p", "not some r not a below c", True), ("q", "some r anything below b", True)))

    def test_the_other_changes_run_none(self):
        onto = Ontology(CHAIN)
        self.assertEqual(onto.watch("never"), (("never",), ()))
        self.assertEqual(onto.watch("a below (c)"), (("a below c",), (("never", False, False, False),)))
        self.assertEqual(onto.take("p", False)[0], ())
        self.assertEqual(onto.remove("p")[0], ())
        self.assertEqual(onto.unwatch("never")[0], ())

    def test_an_axiom_that_is_not_taken_is_run_too(self):
        onto = Ontology(CHAIN)
        onto.take("q", False)
        onto.watch("a below c")
        self.assertEqual(onto.change("q", "b below c and d"), (("a below c",), (("a below c", False, False, False),)))


class RemoveTakeChangeTest(unittest.TestCase):
    def test_to_remove(self):
        onto = Ontology(CHAIN + "axiom x: a below c; axiom y: c below d;")
        onto.watch("a below c")
        onto.watch("a below d")
        self.assertEqual(onto.remove("q"), ((), (("a below c", True, True, True), ("a below d", True, True, True))))
        self.assertEqual(onto.condition("a below d"), ((("y", 0, 1), ("x", 0, 2)), 3))
        self.assertEqual(onto.remove("p"), ((), (("a below c", True, True, False), ("a below d", True, True, False))))
        self.assertEqual(onto.axioms(), (("x", "a below c", True), ("y", "c below d", True)))
        self.assertEqual(onto.remove("x")[1], (("a below c", True, False, True), ("a below d", True, False, True)))

    def test_to_take(self):
        onto = Ontology(CHAIN)
        onto.watch("a below c")
        self.assertEqual(onto.take("p", False), ((), (("a below c", True, False, False),)))
        self.assertEqual(onto.take("p", False), ((), (("a below c", False, False, False),)))
        self.assertEqual(onto.take("p", True), ((), (("a below c", False, True, False),)))
        self.assertEqual(onto.axioms(), (("p", "a below b", True), ("q", "b below c", True)))
        self.assertEqual(onto.versions(), 4)

    def test_a_changed_axiom_keeps_its_name_its_place_and_whether_it_is_taken(self):
        onto = Ontology(CHAIN)
        onto.take("p", False)
        onto.change("p", "c   below (d)")
        self.assertEqual(onto.axioms(), (("p", "c below d", False), ("q", "b below c", True)))

    def test_errors_of_change(self):
        onto = Ontology(CHAIN)
        with self.assertRaises(NoSuchAxiom):
            onto.change("x", "a below")
        for text, wanted in (("a below", (1, 8, "expected a concept")), ("i is e", (1, 1, "unknown concept: e")),
                             (" a below b;", (1, 11, "expected the end"))):
            self.assertEqual(fault(lambda words: onto.change("p", words), text), wanted)
        names = "some r a and some r b and some r c and some r d and some s a and some s b and some s c and some s d"
        onto.change("p", f"{names} below a")
        with self.assertRaises(TooLarge) as caught:
            onto.change("q", "some s anything below some r anything")
        self.assertEqual(caught.exception.count, 14)
        self.assertEqual(onto.axioms()[1], ("q", "b below c", True))
        self.assertEqual(onto.versions(), 1)
        # The statement that it had before does not count any more.
        onto.change("p", "some s anything below some r anything")
        self.assertEqual(onto.versions(), 2)


class WatchTest(unittest.TestCase):
    def test_the_text_that_a_watched_question_is_shown_by(self):
        onto = Ontology(CHAIN)
        self.assertEqual(onto.watch(" (a) below not\n(b and c)# that is it"), (("a below not (b and c)",), ()))
        self.assertEqual(onto.watched(), (("a below not (b and c)", False),))

    def test_the_same_question_by_another_text(self):
        onto = Ontology(CHAIN)
        onto.watch("a below all r b")
        for text in ("a below all r b", "(a) below (all r (b))", "a below not some r not b"):
            with self.assertRaises(AlreadyWatched):
                onto.watch(text)
        onto.watch("a below not not all r b")
        onto.watch("a below b or c")
        with self.assertRaises(AlreadyWatched):
            onto.watch("a below not (not b and not c)")
        onto.unwatch("a below not some r not b")
        self.assertEqual([text for text, _ in onto.watched()], ["a below not not all r b", "a below b or c"])

    def test_the_order_and_the_news(self):
        onto = Ontology(CHAIN)
        onto.watch("a below b")
        onto.watch("b below c")
        self.assertEqual(onto.watch("a below c"),
                         (("a below c",), (("a below b", True, True, False), ("b below c", True, True, False))))
        self.assertEqual(onto.unwatch("a below b"),
                         ((), (("b below c", True, True, False), ("a below c", True, True, False))))
        onto.watch("a below b")
        self.assertEqual([text for text, _ in onto.watched()], ["b below c", "a below c", "a below b"])

    def test_at_most_six_questions(self):
        onto = Ontology(CHAIN)
        for name in ("a", "b", "c", "d", "anything", "nothing"):
            onto.watch(f"{name} below c")
        with self.assertRaises(TooManyQuestions):
            onto.watch("never")
        # That the same question is watched comes first.
        with self.assertRaises(AlreadyWatched):
            onto.watch("a below c")
        onto.unwatch("a below c")
        onto.watch("never")
        self.assertEqual(len(onto.watched()), 6)

    def test_to_unwatch_what_is_not_watched(self):
        onto = Ontology(CHAIN)
        onto.watch("a below c")
        with self.assertRaises(NotWatched):
            onto.unwatch("a below b")
        self.assertEqual((onto.watched(), onto.versions()), ((("a below c", True),), 1))


class NothingChangesTest(unittest.TestCase):
    def test_errors_change_nothing(self):
        onto = Ontology(CHAIN)
        onto.watch("a below c")
        before = (onto.axioms(), onto.watched(), onto.versions(), onto.compare(1, "a below c"))
        for call in (lambda: onto.add("axiom p: a below b;"), lambda: onto.remove("x"), lambda: onto.take("x", True),
                     lambda: onto.change("p", "a below e"), lambda: onto.change("x", "a below b"),
                     lambda: onto.watch("a below c"), lambda: onto.watch("e below c"), lambda: onto.unwatch("never")):
            with self.assertRaises(ValueError):
                call()
            self.assertEqual((onto.axioms(), onto.watched(), onto.versions(), onto.compare(1, "a below c")), before)


class BackTest(unittest.TestCase):
    def test_each_kind_of_change(self):
        onto = Ontology(CHAIN)
        onto.watch("a below c")
        states = []
        for change in (lambda: onto.add("axiom x: a below c;"), lambda: onto.remove("p"), lambda: onto.take("x", False),
                       lambda: onto.change("q", "c below b"), lambda: onto.watch("never"),
                       lambda: onto.unwatch("a below c"), lambda: onto.watch("c below b")):
            states.append((onto.axioms(), onto.watched(), onto.versions()))
            change()
        for state in reversed(states):
            onto.back()
            self.assertEqual((onto.axioms(), onto.watched(), onto.versions()), state)

    def test_the_news(self):
        onto = Ontology(CHAIN)
        onto.watch("a below c")
        onto.watch("b below c")
        onto.remove("p")
        self.assertEqual(onto.back(), (("a below c", False, True, True), ("b below c", True, True, False)))
        onto.take("q", False)
        self.assertEqual(onto.back(), (("a below c", False, True, False), ("b below c", False, True, False)))
        onto.unwatch("a below c")
        # The question that is watched again was not watched in the version that is left.
        self.assertEqual(onto.back(), (("b below c", True, True, False),))
        self.assertEqual(onto.back(), (("a below c", True, True, False),))

    def test_nothing_to_take_back(self):
        onto = Ontology(CHAIN)
        with self.assertRaises(NothingToTakeBack):
            onto.back()
        onto.take("p", True)
        self.assertEqual(onto.back(), ())
        with self.assertRaises(NothingToTakeBack):
            onto.back()

    def test_ten_and_eleven_changes(self):
        for count in (10, 11, 25):
            onto = Ontology(CHAIN)
            for number in range(count):
                onto.take("p", number % 2 == 0)
                self.assertEqual(onto.versions(), min(number + 1, 10))
            for number in range(10):
                self.assertEqual(onto.versions(), 10 - number)
                onto.back()
            with self.assertRaises(NothingToTakeBack):
                onto.back()
            # The version before the last ten changes.
            self.assertEqual(onto.axioms()[0][2], count == 10 or (count - 11) % 2 == 0)

    def test_changes_after_taking_back(self):
        onto = Ontology(CHAIN)
        onto.take("p", False)
        onto.take("q", False)
        onto.back()
        self.assertEqual(onto.versions(), 1)
        onto.remove("q")
        self.assertEqual(onto.versions(), 2)
        onto.back()
        self.assertEqual(onto.axioms(), (("p", "a below b", False), ("q", "b below c", True)))
        onto.back()
        self.assertEqual(onto.axioms(), (("p", "a below b", True), ("q", "b below c", True)))

    def test_a_change_that_changes_nothing_makes_a_version(self):
        onto = Ontology(CHAIN)
        onto.watch("a below c")
        self.assertEqual(onto.change("p", "a below b"), ((), (("a below c", True, True, False),)))
        self.assertEqual(onto.take("p", True), ((), (("a below c", True, True, False),)))
        self.assertEqual(onto.versions(), 3)
        self.assertEqual(onto.back(), (("a below c", True, True, False),))


class CompareTest(unittest.TestCase):
    def test_version_0(self):
        onto = Ontology(CHAIN)
        self.assertEqual(onto.compare(0, "a below c"), ((), ()))
        onto.take("p", False)
        self.assertEqual(onto.compare(0, "a below c"), ((), ()))

    def test_no_such_version(self):
        onto = Ontology(CHAIN)
        onto.take("p", False)
        onto.compare(1, "a below c")
        for version in (2, 3, 100):
            with self.assertRaises(NoSuchVersion):
                onto.compare(version, "a below c")
        self.assertEqual(fault(lambda text: onto.compare(2, text), "a below e"), (1, 1, "unknown concept: e"))
        onto.back()
        with self.assertRaises(NoSuchVersion):
            onto.compare(1, "a below c")

    def test_sets_that_are_lost_and_gained(self):
        onto = Ontology(CHAIN + "axiom x: a below c;")
        onto.change("x", "a below d")
        onto.add("axiom y: d below c;")
        onto.remove("q")
        # In that version x alone was a reason, so x and y together are no set that it has lost.
        self.assertEqual(onto.compare(3, "a below c"), ((("x",), ("p", "q")), ()))
        self.assertEqual(onto.compare(2, "a below c"), ((("p", "q"),), (("x", "y"),)))
        self.assertEqual(onto.compare(1, "a below c"), ((("p", "q"),), ()))

    def test_sets_with_an_axiom_that_is_not_there_any_more_but_is_not_needed(self):
        onto = Ontology(CHAIN)
        onto.change("p", "a below c")
        onto.remove("q")
        # The set of p and q is no least reason now, but it is not lost: the condition says nothing to q.
        self.assertEqual(onto.compare(2, "a below c"), ((), (("p",),)))

    def test_taken_or_not_does_not_matter(self):
        onto = Ontology(CHAIN)
        onto.take("p", False)
        onto.add("axiom x: a below c;")
        onto.take("x", False)
        self.assertEqual(onto.compare(3, "a below c"), ((), (("x",),)))

    def test_an_axiom_that_was_removed_and_added_again_is_another_one(self):
        onto = Ontology(CHAIN)
        onto.watch("a below c")
        onto.remove("q")
        self.assertEqual(onto.add("axiom q: b below c;"), (("a below c",), (("a below c", False, True, True),)))
        self.assertEqual(onto.compare(2, "a below c"), ((("p", "q"),), (("p", "q"),)))
        onto.back()
        onto.back()
        self.assertEqual(onto.compare(1, "a below c"), ((), ()))

    def test_an_axiom_that_was_added_after_taking_back_is_another_one(self):
        onto = Ontology(CHAIN)
        onto.add("axiom x: a below c;")
        onto.back()
        onto.add("axiom x: a below c;")
        onto.add("axiom y: c below a;")
        self.assertEqual(onto.compare(1, "a below c"), ((), ()))
        self.assertEqual(onto.compare(2, "a below c"), ((), (("x",),)))

    def test_names_and_order_of_the_first_version(self):
        onto = Ontology(HEAD + "axiom z: a below b; axiom y: b below c; axiom x: a below c;")
        onto.remove("z")
        onto.add("axiom w: a below c;")
        onto.add("axiom z: a below d;")
        onto.add("axiom v: d below c;")
        self.assertEqual(onto.compare(4, "a below c"), ((("z", "y"),), (("w",), ("z", "v"))))

    def test_questions_with_concepts_of_no_axiom(self):
        onto = Ontology(CHAIN)
        onto.add("axiom x: anything below nothing;")
        self.assertEqual(onto.compare(1, "d below a"), ((), (("x",),)))
        self.assertEqual(atoms(((), 2), (tree_of("d below a"),)), (("name", 3), ("name", 0)))


if __name__ == "__main__":
    unittest.main()
