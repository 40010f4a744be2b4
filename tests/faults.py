"""What the tests of several files need."""

from ontoworks.errors import FaultyText

# The source of point 2.
EXAMPLE = """concept person, parent, mother;
role child;
individual ann, bob;
axiom parents: parent equals person and some child person;
axiom mothers: mother below parent;
axiom first: ann is mother;
axiom second: bob is person;
"""


def fault(function, text):
    """Return (line, column, reason) of the FaultyText that a function raises for a text, or None if it raises none."""
    try:
        function(text)
    except FaultyText as error:
        return (error.line, error.column, error.reason)
    return None


def kinds(value):
    """Return the set of the Python types in a value, tuples looked into."""
    found = {type(value)}
    if type(value) is tuple:
        for part in value:
            found |= kinds(part)
    return found
