"""Conditions, each written as its one pair (nodes, root) (points 6 to 9)."""

from ontoworks.table import ALWAYS, FIRST_NODE, NEVER, Table


def variable(number):
    """Return the condition that says yes exactly to the sets that have the number."""
    return ((number, NEVER, ALWAYS),), FIRST_NODE


def negation(condition):
    """Return the condition that says yes exactly where this one says no."""
    # Only never and always change places, on which the order of the nodes does not depend.
    nodes, root = condition
    rows = [(number, _opposite(without), _opposite(within)) for number, without, within in nodes]
    return tuple(rows), _opposite(root)


def both(first, second):
    """Return the condition that says yes exactly where both do."""
    table = Table()
    test = _copied(table, first)
    return table.condition(table.choice(test, _copied(table, second), NEVER))


def either(first, second):
    """Return the condition that says yes exactly where at least one does."""
    table = Table()
    test = _copied(table, first)
    return table.condition(table.choice(test, ALWAYS, _copied(table, second)))


def restricted(condition, number, yes):
    """Return what is left of a condition once it is known whether the number is in the set."""
    nodes, root = condition
    table = Table()
    copies = [NEVER, ALWAYS]
    for asked, without, within in nodes:
        if asked == number:
            copies.append(copies[within if yes else without])
        else:
            copies.append(table.node(asked, copies[without], copies[within]))
    return table.condition(copies[root])


def chosen(condition, number):
    """Return the condition that says yes to a set if the condition does to the set with or without the number."""
    return either(restricted(condition, number, False), restricted(condition, number, True))


def renumbered(condition, numbers):
    """Return the condition that says to a set what the condition says to all k for which numbers[k] is in the set."""
    nodes, root = condition
    table = Table()
    copies = [NEVER, ALWAYS]
    for asked, without, within in nodes:
        # The new numbers may be in another order, so that the new number need not come first any more.
        test = table.node(numbers[asked], NEVER, ALWAYS)
        copies.append(table.choice(test, copies[within], copies[without]))
    return table.condition(copies[root])


def holds(condition, members):
    """Tell whether the condition says yes to the set."""
    nodes, diagram = condition
    while diagram >= FIRST_NODE:
        number, without, within = nodes[diagram - FIRST_NODE]
        diagram = within if number in members else without
    return diagram == ALWAYS


def asks(condition):
    """Return the numbers on which the condition depends, a tuple."""
    nodes, _ = condition
    return tuple(sorted({row[0] for row in nodes}))


def size(condition):
    """Return the number of nodes."""
    nodes, _ = condition
    return len(nodes)


def ways(condition, count):
    """Return to how many sets of the numbers from 0 to count - 1 the condition says yes."""
    nodes, root = condition
    counts = [0, 1 << count]
    for _, without, within in nodes:
        # Neither of the two diagrams depends on the number of the node, so half of the sets of each are meant.
        counts.append((counts[without] + counts[within]) // 2)
    return counts[root]


def _opposite(diagram):
    """Return the number of a diagram once never and always have changed places."""
    return diagram if diagram >= FIRST_NODE else ALWAYS - diagram


def _copied(table, condition):
    """Return the diagram of a table that says what a condition says."""
    nodes, root = condition
    copies = [NEVER, ALWAYS]
    for number, without, within in nodes:
        copies.append(table.node(number, copies[without], copies[within]))
    return copies[root]
