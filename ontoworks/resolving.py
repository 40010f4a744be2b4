"""From texts and written trees to trees with numbers (points 19 and 21).

Here `names` is a triple of tuples: the concepts, the roles and the individuals that are declared; `axioms` is a tuple
of pairs (name, written statement).
"""

from ontoworks.checking import problems
from ontoworks.cursor import Cursor
from ontoworks.declaring import NO_NAMES, declared, item_problem, name_problem
from ontoworks.errors import FaultyText
from ontoworks.reading import read_concept, read_item, read_question, read_source, read_statement
from ontoworks.roles import inverse

ANYTHING = ("any",)
NOTHING = ("not", ("any",))


def opened(text):
    """Return the pair (names, axioms) of a source; raise FaultyText with its first problem if there is one."""
    found = problems(text)
    if found:
        line, column, reason = found[0]
        raise FaultyText(line, column, reason)
    names = NO_NAMES
    axioms = ()
    for item in read_source(text):
        names, axioms = declared(names, axioms, item)
    return names, axioms


def core_concept(names, concept):
    """Return the concept, with numbers, of a written concept."""
    kind = concept[0]
    if kind == "anything":
        return ANYTHING
    if kind == "nothing":
        return NOTHING
    if kind == "name":
        return ("name", names[0].index(concept[1]))
    if kind == "not":
        return ("not", core_concept(names, concept[1]))
    if kind == "some":
        return ("some", _role(names, concept[1]), core_concept(names, concept[2]))
    if kind == "all":
        return ("not", ("some", _role(names, concept[1]), ("not", core_concept(names, concept[2]))))
    first = core_concept(names, concept[1])
    second = core_concept(names, concept[2])
    if kind == "and":
        return ("and", first, second)
    return ("not", ("and", ("not", first), ("not", second)))


def core_question(names, question):
    """Return the question, with numbers, of a written question."""
    kind = question[0]
    if kind == "below":
        return ("below", core_concept(names, question[1]), core_concept(names, question[2]))
    individuals = names[2]
    if kind == "is":
        return ("is", individuals.index(question[1]), core_concept(names, question[2]))
    if kind == "has":
        _, first, role, second = question
        return ("has", individuals.index(first), names[1].index(role), individuals.index(second))
    return question


def parts(names, statement):
    """Return the axiom of a written statement: the tuple of its parts."""
    kind = statement[0]
    if kind in ("equals", "apart"):
        return _parts_of_two_concepts(names, statement)
    if kind == "domain":
        return (_typing(names, _role(names, statement[1]), statement[2]),)
    if kind == "range":
        return (_typing(names, inverse(_role(names, statement[1])), statement[2]),)
    if kind == "under":
        return (("under", _role(names, statement[1]), _role(names, statement[2])),)
    if kind == "inverse":
        first = _role(names, (statement[1], False))
        second = _role(names, (statement[2], True))
        return ("under", first, second), ("under", second, first)
    # All other statements are written as questions are.
    return (core_question(names, statement),)


def question_of(names, axioms, text):
    """Return the written question of a text."""
    question = read_question(text)
    _refuse(text, name_problem(names, question))
    return question


def statement_of(names, axioms, text):
    """Return the written statement of a text."""
    statement = read_statement(text)
    _refuse(text, name_problem(names, statement))
    return statement


def concept_of(names, axioms, text):
    """Return the concept, with numbers, of a text."""
    concept = read_concept(text)
    _refuse(text, name_problem(names, concept))
    return core_concept(names, concept)


def axiom_of(names, axioms, text):
    """Return the pair (name, written statement) of the text of an item."""
    item = read_item(text)
    _refuse(text, item_problem(names, axioms, item) if item[0] == "axiom" else "expected axiom")
    return item[1:]


def _role(names, role):
    """Return the role, with a number, of a written role."""
    name, back = role
    return names[1].index(name), back


def _parts_of_two_concepts(names, statement):
    """Return the parts of a statement `equals` or `apart`."""
    kind, first, second = statement
    first = core_concept(names, first)
    second = core_concept(names, second)
    if kind == "equals":
        return ("below", first, second), ("below", second, first)
    return (("below", ("and", first, second), NOTHING),)


def _typing(names, role, concept):
    """Return the part that says that all things that have something behind a role belong to a written concept."""
    return ("below", ("some", role, ANYTHING), core_concept(names, concept))


def _refuse(text, reason):
    """Raise FaultyText at the first token of a text, unless the reason is None."""
    if reason is not None:
        line, column = Cursor(text).here()
        raise FaultyText(line, column, reason)
