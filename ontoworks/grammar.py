"""The grammar (points 13 to 17): each function reads one of its forms at a cursor and returns the written tree."""

from ontoworks.tokens import is_name

DEEPEST_LEVEL = 8
GREATEST_HEIGHT = 12
DECLARATIONS = {"concept": "concepts", "role": "roles", "individual": "individuals"}


def item(cursor):
    """Read an item."""
    word = cursor.word()
    if word == "axiom":
        return _axiom(cursor)
    if word not in DECLARATIONS:
        cursor.fail("expected concept, role, individual or axiom")
    cursor.step()
    names = [cursor.take_name()]
    while cursor.word() == ",":
        cursor.step()
        names.append(cursor.take_name())
    cursor.expect(";")
    return (DECLARATIONS[word], tuple(names))


def statement(cursor):
    """Read a statement."""
    word = cursor.word()
    if word in ("domain", "range"):
        cursor.step()
        side = role(cursor)
        return (word, side, concept(cursor))
    if word == "inverse" or _is_name_before(cursor, "under"):
        first = role(cursor)
        cursor.expect("under")
        return ("under", first, role(cursor))
    if _is_name_before(cursor, "inverse"):
        name = cursor.take_name()
        cursor.step()
        return ("inverse", name, cursor.take_name())
    if _begins_fact(cursor):
        return _fact(cursor)
    return _comparison(cursor)


def question(cursor):
    """Read a question."""
    if cursor.word() == "never":
        cursor.step()
        return ("never",)
    if _begins_fact(cursor):
        return _fact(cursor)
    first = concept(cursor)
    cursor.expect("below")
    return ("below", first, concept(cursor))


def role(cursor):
    """Read a role."""
    back = cursor.word() == "inverse"
    if back:
        cursor.step()
    return (cursor.take_name(), back)


def concept(cursor):
    """Read a concept of level 0."""
    tree, height = _alternatives(cursor, 0)
    if height > GREATEST_HEIGHT:
        cursor.fail("too many operators")
    return tree


def _axiom(cursor):
    """Read an item that begins with `axiom`."""
    cursor.step()
    name = cursor.take_name()
    cursor.expect(":")
    tree = statement(cursor)
    cursor.expect(";")
    return ("axiom", name, tree)


def _is_name_before(cursor, word):
    """Tell whether the next token is a name with this word behind it."""
    return is_name(cursor.word()) and cursor.word_behind() == word


def _begins_fact(cursor):
    """Tell whether the next token is a name with `is` or another name behind it."""
    if not is_name(cursor.word()):
        return False
    behind = cursor.word_behind()
    return behind == "is" or is_name(behind)


def _fact(cursor):
    """Read what is said of an individual: `name is concept` or `name name name`."""
    name = cursor.take_name()
    if cursor.word() == "is":
        cursor.step()
        return ("is", name, concept(cursor))
    link = cursor.take_name()
    return ("has", name, link, cursor.take_name())


def _comparison(cursor):
    """Read a statement that begins with a concept."""
    first = concept(cursor)
    word = cursor.word()
    if word not in ("below", "equals", ","):
        cursor.fail("expected below, equals or ,")
    cursor.step()
    second = concept(cursor)
    if word == ",":
        cursor.expect("apart")
        return ("apart", first, second)
    return (word, first, second)


# The functions below return pairs (written concept, height). Heights are counted while reading, because
# a chain of operators inside of parentheses may be too long for a function that calls itself for each of them.


def _alternatives(cursor, level):
    """Read what the grammar calls a concept."""
    return _chain(cursor, level, "or", _both)


def _both(cursor, level):
    """Read what the grammar calls both."""
    return _chain(cursor, level, "and", _front)


def _chain(cursor, level, word, operand):
    """Read operands with a word between each two of them, which associates to the left."""
    tree, height = operand(cursor, level)
    while cursor.word() == word:
        cursor.step()
        second, other = operand(cursor, level)
        tree = (word, tree, second)
        height = 1 + max(height, other)
    return tree, height


def _front(cursor, level):
    """Read what the grammar calls a front."""
    word = cursor.word()
    if word == "not":
        _step_deeper(cursor, level)
        tree, height = _front(cursor, level + 1)
        return ("not", tree), height + 1
    if word in ("some", "all"):
        _step_deeper(cursor, level)
        way = role(cursor)
        tree, height = _front(cursor, level + 1)
        return (word, way, tree), height + 1
    return _atom(cursor, level)


def _atom(cursor, level):
    """Read what the grammar calls an atom."""
    word = cursor.word()
    if word == "(":
        _step_deeper(cursor, level)
        tree, height = _alternatives(cursor, level + 1)
        cursor.expect(")")
        return tree, height
    if is_name(word):
        cursor.step()
        return ("name", word), 0
    if word not in ("anything", "nothing"):
        cursor.fail("expected a concept")
    cursor.step()
    return (word,), 0


def _step_deeper(cursor, level):
    """Go on behind a token that begins a level of nesting."""
    if level == DEEPEST_LEVEL:
        cursor.fail("nested too deeply")
    cursor.step()
