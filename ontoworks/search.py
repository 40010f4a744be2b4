"""Conditions of questions, and types that survive (points 26, 31 and 33)."""

from ontoworks.countermodels import model_of
from ontoworks.models import breaks
from ontoworks.reasoner import Reasoner
from ontoworks.setting import Setting, label_of
from ontoworks.table import ALWAYS, NEVER, Table


def condition(ontology, question):
    """Return the condition of a question."""
    return conditions(ontology, (question,))[0]


def conditions(ontology, questions):
    """Return a tuple of the conditions of some questions, in their order."""
    reasoner = Reasoner(ontology, questions)
    return tuple([_condition(reasoner, question) for question in questions])


def survives(ontology, members, questions, held):
    """Tell whether a type survives for a set of axioms, where the atoms are those of the ontology and the questions."""
    return Setting(Reasoner(ontology, questions), members).survives(held)


def follow(ontology, places, questions):
    """Return for each of some questions whether it follows from a set of axioms, a list."""
    setting = Setting(Reasoner(ontology, questions), places)
    found = []
    for question in questions:
        proof, _ = setting.ask(question)
        found.append(proof is not None)
    return found


def _condition(reasoner, question):
    """Return the condition of one of the questions of a reasoner."""
    count = len(reasoner.ontology[0])
    answers = [None] * (1 << count)
    for label in _largest_first(count):
        if answers[label] is None:
            _answer(reasoner, question, label, answers)
    table = Table()
    return table.condition(_diagram(table, answers, count, 0, 0))


def _largest_first(count):
    """Return the labels of all sets of axioms, none of them behind one that has fewer axioms, a list."""
    sizes = [0]
    for label in range(1, 1 << count):
        sizes.append(sizes[label >> 1] + (label & 1))
    return sorted(range(1 << count), key=lambda label: -sizes[label])


def _answer(reasoner, question, label, answers):
    """Find the answer for a set of axioms, and keep it for all sets for which it tells the answer, too."""
    everything = tuple(range(len(reasoner.ontology[0])))
    setting = Setting(reasoner, tuple([place for place in everything if label >> place & 1]))
    proof, graph = setting.ask(question)
    if proof is not None:
        needed = proof[0]
        for other in range(len(answers)):
            if needed & ~other == 0:
                answers[other] = True
        return
    broken = breaks(model_of(setting, graph), reasoner.ontology, everything)
    kept = label_of(everything) & ~label_of([fault[0] for fault in broken])
    for other in range(len(answers)):
        if other & ~kept == 0:
            answers[other] = False


def _diagram(table, answers, count, number, label):
    """Return the diagram that asks for the axioms from a number on, behind those of a label."""
    if number == count:
        return ALWAYS if answers[label] else NEVER
    without = _diagram(table, answers, count, number + 1, label)
    return table.node(number, without, _diagram(table, answers, count, number + 1, label | 1 << number))
