"""Ontoworks: ontologies, and from which sets of axioms a question follows."""
