"""The model of rules and facts, and the answers to questions about it."""

from retroact.findings import find_model
from retroact.rules import sorted_facts
from retroact.shelf import sort_of
from retroact.terms import extended


def model(rules, facts):
    """Return the list of the facts of the model, in order, or raise as check_rules, or TooLarge."""
    return sorted_facts(list(find_model(rules, facts).reasons))


def ask(rules, facts, atom):
    """Return the list of the facts of the model that the atom fits, in order, or raise as model."""
    return [fact for fact in model(rules, facts) if _fits(atom, fact)]


def _fits(atom, fact):
    return sort_of(atom) == sort_of(fact) and extended(atom[1], fact, {}) is not None
