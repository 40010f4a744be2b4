"""Problems of sources (point 18)."""

from ontoworks.declaring import NO_NAMES, declared, item_problem
from ontoworks.errors import FaultyText
from ontoworks.reading import read_placed


def problems(text):
    """Return the problems of a source, a tuple of triples (line, column, reason)."""
    try:
        placed = read_placed(text)
    except FaultyText as error:
        return ((error.line, error.column, error.reason),)
    return _problems_of_items(placed)


def _problems_of_items(placed):
    """Return the problems of items with their places; an item that has one declares nothing."""
    names = NO_NAMES
    axioms = ()
    found = []
    for (line, column), item in placed:
        reason = item_problem(names, axioms, item)
        if reason is None:
            names, axioms = declared(names, axioms, item)
        else:
            found.append((line, column, reason))
    return tuple(found)
