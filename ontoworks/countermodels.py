"""Counter-models (point 41)."""

from ontoworks.reasoner import Reasoner
from ontoworks.setting import Setting


def counter_model(ontology, places, question):
    """Return a finite model in which the axioms of a set hold and a question does not, or None if it follows."""
    setting = Setting(Reasoner(ontology, (question,)), places)
    _, graph = setting.ask(question)
    return None if graph is None else model_of(setting, graph)


def model_of(setting, graph):
    """Return the finite model that is a graph."""
    states, links = graph
    reasoner = setting.reasoner
    names = [(atom[1], reasoner.basis.literal(atom, True)) for atom in reasoner.atoms if atom[0] == "name"]
    things = [tuple(sorted([name for name, literal in names if state & literal])) for state in states]
    facts = [(one, (role, False), other) for _, _, (_, one, role, other) in setting.parts_of("has")]
    found = {}
    for first, role, second in links + facts:
        for (number, back), _, _ in setting.ways_of(role):
            found[(number, second, first) if back else (number, first, second)] = True
    return tuple(things), tuple(sorted(list(found))), tuple(range(setting.individuals))
