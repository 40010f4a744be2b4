"""Explanations: a derivation where a question follows, a model where it does not (points 41 and 52)."""

from ontoworks.countermodels import model_of
from ontoworks.reasoner import Reasoner
from ontoworks.setting import Setting


def explanation(ontology, places, question):
    """Return the pair of the word "derivation" or "model" and what it is, for a set of axioms and a question."""
    reasoner = Reasoner(ontology, (question,))
    setting = Setting(reasoner, places)
    proof, graph = setting.ask(question)
    if proof is None:
        return "model", model_of(setting, graph)
    how = proof[1]
    return "derivation", reasoner.proofs.derivation(how) if isinstance(how, int) else how
