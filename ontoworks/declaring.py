"""What items declare, and which problem an item has (point 18).

Here `names` is a triple of tuples: the concepts, the roles and the individuals that are declared; `axioms` is a tuple
of pairs (name, written statement).
"""

NO_NAMES = ((), (), ())
KINDS = ("concept", "role", "individual")
DECLARATIONS = ("concepts", "roles", "individuals")
MOST_NAMES = (8, 4, 4)
MOST_AXIOMS = 10

# What stands behind the word of each written tree, in the order of the text: a tree, a written role (here called a
# way), or a name of one of the kinds.
FORMS = {
    "anything": (),
    "nothing": (),
    "name": ("concept",),
    "not": ("tree",),
    "and": ("tree", "tree"),
    "or": ("tree", "tree"),
    "some": ("way", "tree"),
    "all": ("way", "tree"),
    "never": (),
    "below": ("tree", "tree"),
    "equals": ("tree", "tree"),
    "apart": ("tree", "tree"),
    "domain": ("way", "tree"),
    "range": ("way", "tree"),
    "under": ("way", "way"),
    "inverse": ("role", "role"),
    "is": ("individual", "tree"),
    "has": ("individual", "role", "individual"),
}


def item_problem(names, axioms, item):
    """Return the problem of an item, a reason, or None if it has none."""
    if item[0] == "axiom":
        return _axiom_problem(names, axioms, item)
    return _declaration_problem(names, axioms, item)


def name_problem(names, tree):
    """Return the reason about the first name in a written tree that is not declared as what it has to be, or None."""
    for kind, name in _uses(tree):
        if name not in names[KINDS.index(kind)]:
            return f"unknown {kind}: {name}"
    return None


def declared(names, axioms, item):
    """Return the pair (names, axioms) behind an item that has no problem."""
    if item[0] == "axiom":
        return names, axioms + (item[1:],)
    at = DECLARATIONS.index(item[0])
    changed = list(names)
    changed[at] = names[at] + item[1]
    return tuple(changed), axioms


def _axiom_problem(names, axioms, item):
    """Return the problem of an axiom, or None."""
    _, name, statement = item
    if _is_declared(names, axioms, name):
        return f"declared twice: {name}"
    if len(axioms) >= MOST_AXIOMS:
        return "too many axioms"
    return name_problem(names, statement)


def _declaration_problem(names, axioms, item):
    """Return the problem of a declaration, or None."""
    kind, new_names = item
    at = DECLARATIONS.index(kind)
    for earlier, name in enumerate(new_names):
        if _is_declared(names, axioms, name) or name in new_names[:earlier]:
            return f"declared twice: {name}"
        if len(names[at]) + earlier >= MOST_NAMES[at]:
            return f"too many {kind}"
    return None


def _is_declared(names, axioms, name):
    """Tell whether a name is declared, as whatever."""
    return any([name in same for same in names]) or any([name == other for other, _ in axioms])


def _uses(tree):
    """Return the names in a written tree, in the order of the text, a list of pairs (kind, name)."""
    uses = []
    for form, part in zip(FORMS[tree[0]], tree[1:]):
        if form == "tree":
            uses.extend(_uses(part))
        elif form == "way":
            uses.append(("role", part[0]))
        else:
            uses.append((form, part))
    return uses
