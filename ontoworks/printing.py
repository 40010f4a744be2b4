"""Printing: from written trees to canonical texts (point 20)."""

DECLARING = {"concepts": "concept", "roles": "role", "individuals": "individual"}
OR_RANK = 0
AND_RANK = 1
FRONT_RANK = 2


def print_concept(concept):
    """Return the canonical text of a written concept."""
    kind = concept[0]
    if kind == "name":
        return concept[1]
    if kind == "not":
        return f"not {_operand(concept[1], FRONT_RANK)}"
    if kind in ("some", "all"):
        return f"{kind} {_role(concept[1])} {_operand(concept[2], FRONT_RANK)}"
    if kind in ("and", "or"):
        # Both words associate to the left, so the right operand has to bind more tightly than the left one.
        rank = _rank(concept)
        return f"{_operand(concept[1], rank)} {kind} {_operand(concept[2], rank + 1)}"
    return kind


def print_statement(statement):
    """Return the canonical text of a written statement."""
    kind = statement[0]
    if kind in ("below", "equals"):
        return f"{print_concept(statement[1])} {kind} {print_concept(statement[2])}"
    if kind == "apart":
        return f"{print_concept(statement[1])}, {print_concept(statement[2])} apart"
    if kind in ("domain", "range"):
        return f"{kind} {_role(statement[1])} {print_concept(statement[2])}"
    if kind == "under":
        return f"{_role(statement[1])} under {_role(statement[2])}"
    if kind == "inverse":
        return f"{statement[1]} inverse {statement[2]}"
    if kind == "is":
        return f"{statement[1]} is {print_concept(statement[2])}"
    return " ".join(statement[1:])


def print_question(question):
    """Return the canonical text of a written question."""
    if question[0] == "never":
        return "never"
    # All other questions are written and printed as statements are.
    return print_statement(question)


def print_source(items):
    """Return the canonical text of a tuple of items."""
    return "".join([f"{_item(item)}\n" for item in items])


def _item(item):
    """Return the canonical text of an item, without a line feed."""
    if item[0] == "axiom":
        return f"axiom {item[1]}: {print_statement(item[2])};"
    names = ", ".join(item[1])
    return f"{DECLARING[item[0]]} {names};"


def _role(role):
    """Return the canonical text of a written role."""
    name, back = role
    return f"inverse {name}" if back else name


def _rank(concept):
    """Return how tightly a concept binds: an operand of lower rank than its place takes is read otherwise."""
    if concept[0] == "or":
        return OR_RANK
    if concept[0] == "and":
        return AND_RANK
    return FRONT_RANK


def _operand(concept, rank):
    """Return the canonical text of an operand at a place that takes concepts from a rank on."""
    text = print_concept(concept)
    return f"({text})" if _rank(concept) < rank else text
