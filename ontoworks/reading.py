"""Reading: from texts to written trees (points 13 to 17)."""

from ontoworks.cursor import Cursor
from ontoworks.grammar import concept, item, question, statement


def read_source(text):
    """Return the items of a source, a tuple."""
    return tuple([tree for _, tree in read_placed(text)])


def read_placed(text):
    """Return the items of a source, a tuple of pairs: the place (line, column) of its first token, and the item."""
    cursor = Cursor(text)
    placed = []
    while not cursor.at_end():
        start = cursor.here()
        placed.append((start, item(cursor)))
    return tuple(placed)


def read_item(text):
    """Return the written tree of a text that is an item."""
    return _read_whole(text, item)


def read_statement(text):
    """Return the written tree of a text that is a statement."""
    return _read_whole(text, statement)


def read_question(text):
    """Return the written tree of a text that is a question."""
    return _read_whole(text, question)


def read_concept(text):
    """Return the written tree of a text that is a concept."""
    return _read_whole(text, concept)


def _read_whole(text, form):
    """Return the written tree of a text that is a form of the grammar and nothing else."""
    cursor = Cursor(text)
    tree = form(cursor)
    if not cursor.at_end():
        cursor.fail("expected the end")
    return tree
