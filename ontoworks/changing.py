"""The changes of an ontology: from a version to the next one (points 65 to 67).

Each function returns a pair: the new version, and the canonical texts of the watched questions that the change runs.
"""

from ontoworks.diagrams import either, renumbered, restricted
from ontoworks.errors import AlreadyWatched, NotWatched, TooManyQuestions
from ontoworks.groups import module
from ontoworks.search import condition
from ontoworks.version import Axiom, Version, Watched

SAYS_ALWAYS = ((), 1)
MOST_QUESTIONS = 6


def added(version, axiom):
    """Add an axiom behind all others."""
    return _with_axioms(version, version.rows + (axiom,), len(version.rows))


def removed(version, place):
    """Remove the axiom at a place."""
    count = len(version.rows)
    # The axiom that goes is asked for no more, but it needs a number of its own, too.
    numbers = tuple(range(place)) + (count,) + tuple(range(place, count - 1))
    questions = []
    for question in version.questions:
        says = renumbered(restricted(question.says, place, False), numbers)
        questions.append(Watched(question.text, question.tree, says))
    rows = version.rows[:place] + version.rows[place + 1:]
    return Version(version.individuals, rows, tuple(questions)), ()


def changed(version, place, statement, core):
    """Give the axiom at a place another statement, with its parts."""
    old = version.rows[place]
    new = Axiom(old.identity, old.name, statement, core, old.taken)
    rows = version.rows[:place] + (new,) + version.rows[place + 1:]
    if core == old.core:
        return Version(version.individuals, rows, version.questions), ()
    return _with_axioms(version, rows, place)


def switched(version, place, taken):
    """Take the axiom at a place, or take it no more."""
    old = version.rows[place]
    new = Axiom(old.identity, old.name, old.statement, old.core, taken)
    rows = version.rows[:place] + (new,) + version.rows[place + 1:]
    return Version(version.individuals, rows, version.questions), ()


def watching(version, text, tree):
    """Watch a question; raise AlreadyWatched or TooManyQuestions if it cannot be watched."""
    if version.place_of_question(tree) is not None:
        raise AlreadyWatched()
    if len(version.questions) >= MOST_QUESTIONS:
        raise TooManyQuestions()
    question = Watched(text, tree, version.says_of(tree))
    return Version(version.individuals, version.rows, version.questions + (question,)), (text,)


def unwatching(version, tree):
    """Watch a question no more; raise NotWatched if it is not watched."""
    place = version.place_of_question(tree)
    if place is None:
        raise NotWatched()
    questions = version.questions[:place] + version.questions[place + 1:]
    return Version(version.individuals, version.rows, questions), ()


def _with_axioms(version, rows, place):
    """Return the version with other axioms, of which the one at a place was not there before, or not with its parts.

    Its size is checked before any question is run.
    """
    bare = Version(version.individuals, rows, ())
    bare.check_size()
    never = None
    questions = []
    ran = []
    for question in version.questions:
        without = restricted(question.says, place, False)
        if without == SAYS_ALWAYS:
            says = SAYS_ALWAYS
        elif place in module(bare.whole()[0], question.tree):
            ran.append(question.text)
            says = bare.says_of(question.tree)
        else:
            if never is None:
                never = condition(bare.whole(), ("never",))
            says = either(without, never)
        questions.append(Watched(question.text, question.tree, says))
    return Version(version.individuals, rows, tuple(questions)), tuple(ran)
