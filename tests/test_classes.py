import unittest
from itertools import product

from ontoworks.diagrams import holds
from ontoworks.errors import NoSuchAxiom, NoSuchConcept
from ontoworks.ontology import Ontology
from tests.faults import kinds

ANIMALS = """concept animal, cat, dog, pet, thing; role likes; individual tom;
axiom cats: cat below animal; axiom dogs: dog below animal and pet; axiom apart_: cat, dog apart;
axiom pets: pet equals some likes anything; axiom all_: anything below thing; axiom toms: tom is cat;
"""
NEVER = ((), 0)
ALWAYS = ((), 1)


def subsets(members):
    found = [()]
    for member in members:
        found += [one + (member,) for one in found]
    return found


def taking(source, taken):
    """Return the ontology of a source of which just some axioms are taken."""
    onto = Ontology(source)
    for name, _, _ in onto.axioms():
        onto.take(name, name in taken)
    return onto


def picture(onto):
    """Return the picture of an ontology, in the words of points 72 and 73."""
    concepts = onto.names()[0]
    if onto.follows("never"):
        return False, (), concepts, ()
    impossible = tuple(name for name in concepts if onto.follows(f"{name} below nothing"))
    everything = tuple(name for name in concepts if onto.follows(f"anything below {name}") and name not in impossible)
    rest = [name for name in concepts if name not in impossible + everything]
    below = {(one, other) for one, other in product(rest, rest) if onto.follows(f"{one} below {other}")}
    classes = []
    for name in rest:
        same = tuple(other for other in rest if (name, other) in below and (other, name) in below)
        if same not in classes:
            classes.append(same)
    higher = {(one, other) for one, other in product(classes, classes)
              if one != other and (one[0], other[0]) in below}
    told = []
    for one in classes:
        direct = [other for other in classes if (one, other) in higher
                  and not any((one, middle) in higher and (middle, other) in higher for middle in classes)]
        told.append((one, tuple(sorted(classes.index(other) for other in direct))))
    return True, everything, impossible, tuple(told)


def relation(told, one, other):
    """Return which of the four things hold of two concepts in a picture, in the words of point 74."""
    classes = told[3]
    at = [place for place, (names, _) in enumerate(classes) if one in names]
    to = [place for place, (names, _) in enumerate(classes) if other in names]
    same = bool(at) and at == to
    return same, bool(at) and bool(to) and to[0] in classes[at[0]][1]


class PictureTest(unittest.TestCase):
    def test_classes_with_several_concepts_and_those_directly_above(self):
        onto = Ontology("concept a, b, c, d, e; axiom p: a below b; axiom q: b below c; axiom r: a below c; "
                        "axiom s: c equals d; axiom t: e below b;")
        self.assertEqual(onto.picture(), (True, (), (), (
            (("a",), (1,)), (("b",), (2,)), (("c", "d"), ()), (("e",), (1,)))))

    def test_several_classes_directly_above(self):
        onto = Ontology("concept d, c, b, a; axiom p: a below b and c; axiom q: b below d; axiom r: c below d;")
        self.assertEqual(onto.picture(), (True, (), (), (
            (("d",), ()), (("c",), (0,)), (("b",), (0,)), (("a",), (1, 2)))))

    def test_no_axioms(self):
        self.assertEqual(Ontology("concept b, a;").picture(), (True, (), (), ((("b",), ()), (("a",), ()))))
        self.assertEqual(Ontology("role r; individual i;").picture(), (True, (), (), ()))

    def test_nothing_possible(self):
        onto = Ontology("concept a, b; axiom p: anything below nothing; axiom q: anything below b;")
        self.assertEqual(onto.picture(), (False, (), ("a", "b"), ()))
        self.assertEqual(onto.picture(("q",)), (True, ("b",), (), ((("a",), ()),)))
        onto = Ontology("concept b, a; individual i; axiom p: i is a; axiom q: a below nothing;")
        self.assertEqual(onto.picture(), (False, (), ("b", "a"), ()))

    def test_concepts_that_have_everything_and_impossible_ones(self):
        onto = Ontology("concept a, b, c, d; axiom p: anything below b; axiom q: c below not b; axiom r: d below a;")
        self.assertEqual(onto.picture(), (True, ("b",), ("c",), ((("a",), ()), (("d",), (0,)))))
        self.assertEqual(onto.picture(("p",)), (True, ("b",), (), ((("a",), ()), (("c",), ()), (("d",), ()))))
        onto = Ontology("concept a, b, c; axiom p: anything below a and c; axiom q: b below nothing;")
        self.assertEqual(onto.picture(), (True, ("a", "c"), ("b",), ()))

    def test_names_in_any_order_and_several_times(self):
        onto = Ontology("concept a, b, c; axiom p: a below b; axiom q: b below c; axiom r: c below a;")
        wanted = (True, (), (), ((("a",), (1,)), (("b",), (2,)), (("c",), ())))
        for taken in (("p", "q"), ("q", "p"), ("q", "p", "q", "q", "p")):
            self.assertEqual(onto.picture(taken), wanted)
        self.assertEqual(onto.picture(()), (True, (), (), ((("a",), ()), (("b",), ()), (("c",), ()))))
        self.assertEqual(onto.picture(("r", "q", "p")), (True, (), (), ((("a", "b", "c"), ()),)))

    def test_the_axioms_that_are_taken(self):
        onto = Ontology("concept a, b, c; axiom p: a below b; axiom q: b below c;")
        onto.take("p", False)
        self.assertEqual(onto.picture(), (True, (), (), ((("a",), ()), (("b",), (2,)), (("c",), ()))))
        self.assertEqual(onto.picture(None), onto.picture())
        # Axioms are taken for the picture also if they are not taken otherwise.
        self.assertEqual(onto.picture(("p",)), (True, (), (), ((("a",), (1,)), (("b",), ()), (("c",), ()))))

    def test_no_such_axiom(self):
        onto = Ontology("concept a; axiom p: a below a;")
        for taken, name in ((("x",), "x"), (("p", "y", "x"), "y"), (("p", "p", "a"), "a")):
            with self.assertRaises(NoSuchAxiom) as caught:
                onto.picture(taken)
            self.assertEqual(caught.exception.name, name)

    def test_against_the_words_of_the_document(self):
        for taken in subsets(("cats", "dogs", "apart_", "pets", "all_", "toms")):
            onto = taking(ANIMALS, taken)
            self.assertEqual(onto.picture(), picture(onto), taken)
            self.assertEqual(Ontology(ANIMALS).picture(taken), picture(onto), taken)

    def test_eight_concepts(self):
        names = "abcdefgh"
        steps = "".join(f"axiom p{at}: {low} below {high};" for at, (low, high) in enumerate(zip(names, names[1:])))
        onto = Ontology(f"concept {', '.join(names)};" + steps)
        wanted = tuple(((name,), (at + 1,) if at < 7 else ()) for at, name in enumerate(names))
        self.assertEqual(onto.picture(), (True, (), (), wanted))

    def test_values(self):
        self.assertEqual(kinds(Ontology(ANIMALS).picture()), {tuple, str, int, bool})


class RelationTest(unittest.TestCase):
    def test_below_same_and_direct(self):
        onto = Ontology("concept a, b, c; axiom p: a below b; axiom q: b below c; axiom r: c below a;")
        below, above, same, direct = onto.relation("a", "c")
        self.assertEqual(below, ((("q", 0, 1), ("p", 0, 2)), 3))
        self.assertEqual(above, ((("r", 0, 1),), 2))
        self.assertEqual(same, ((("r", 0, 1), ("q", 0, 2), ("p", 0, 3)), 4))
        # b stands between them; and with r they are one class.
        self.assertEqual(direct, NEVER)
        self.assertEqual(onto.relation("a", "b")[3], ((("r", 1, 0), ("q", 1, 2), ("p", 0, 3)), 4))

    def test_the_same_concept(self):
        onto = Ontology("concept a, b; axiom p: a below nothing; axiom q: anything below a;")
        self.assertEqual(onto.relation("a", "a"), (ALWAYS, ALWAYS, ((("q", 1, 0), ("p", 2, 0)), 3), NEVER))
        self.assertEqual(onto.relation("b", "b")[:2], (ALWAYS, ALWAYS))
        # If nothing is possible, b is impossible, too.
        self.assertEqual(onto.relation("b", "b")[2], ((("q", 1, 0), ("p", 1, 2)), 3))

    def test_impossible_concepts_are_below_all_but_in_no_class(self):
        onto = Ontology("concept a, b; axiom p: a below b; axiom q: a below nothing;")
        below, above, same, direct = onto.relation("a", "b")
        self.assertEqual(below, ((("q", 0, 1), ("p", 2, 1)), 3))
        self.assertEqual((above, same), (NEVER, NEVER))
        self.assertEqual(direct, ((("q", 1, 0), ("p", 0, 2)), 3))

    def test_concepts_that_have_everything_are_in_no_class(self):
        onto = Ontology("concept a, b; axiom p: a below b; axiom q: anything below b;")
        self.assertEqual(onto.relation("a", "b")[3], ((("q", 1, 0), ("p", 0, 2)), 3))

    def test_what_is_taken_does_not_matter(self):
        onto = Ontology(ANIMALS)
        found = onto.relation("dog", "pet")
        onto.take("dogs", False)
        onto.take("pets", False)
        self.assertEqual(onto.relation("dog", "pet"), found)

    def test_no_such_concept(self):
        onto = Ontology("concept a, b; role r; individual i; axiom p: a below b;")
        for one, other, name in (("x", "y", "x"), ("a", "y", "y"), ("x", "a", "x"), ("r", "a", "r"), ("a", "i", "i"),
                                 ("p", "p", "p"), ("anything", "a", "anything")):
            with self.assertRaises(NoSuchConcept) as caught:
                onto.relation(one, other)
            self.assertEqual(caught.exception.name, name)

    def test_against_the_pictures_of_all_sets(self):
        onto = Ontology(ANIMALS)
        order = [name for name, _, _ in onto.axioms()]
        concepts = onto.names()[0]
        found = {pair: [self.numbered(says, order) for says in onto.relation(*pair)]
                 for pair in product(concepts, concepts)}
        for taken in subsets(order):
            some = taking(ANIMALS, taken)
            members = tuple(place for place, name in enumerate(order) if name in taken)
            told = picture(some)
            for (one, other), (below, above, same, direct) in found.items():
                self.assertIs(holds(below, members), some.follows(f"{one} below {other}"))
                self.assertIs(holds(above, members), some.follows(f"{other} below {one}"))
                self.assertEqual((holds(same, members), holds(direct, members)), relation(told, one, other))

    def numbered(self, says, order):
        """Return a condition with places in place of the names of axioms."""
        nodes, root = says
        return tuple((order.index(name), without, within) for name, without, within in nodes), root

    def test_values(self):
        self.assertEqual(kinds(Ontology(ANIMALS).relation("cat", "animal")), {tuple, str, int})


if __name__ == "__main__":
    unittest.main()
