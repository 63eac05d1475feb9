"""Books and derivations, which show what holds, and the short checks of them."""

from retroact.findings import Findings, find_model
from retroact.instances import is_check_met, new_heads
from retroact.rules import bind
from retroact.shelf import Shelf
from retroact.terms import atoms_of, variables_of


def make_book(rules, facts):
    """Return an accepted book, in the order in which the facts are found, or raise as model."""
    return list(find_model(rules, facts).reasons.items())


def accepts_book(rules, facts, book):
    """Tell if a book is accepted for the rules and the given facts."""
    shelf = Shelf([fact for fact, reason in book])
    if len(shelf.known) != len(book) or not all([fact in shelf.known for fact in facts]):
        return False
    if not _are_reasons_right(rules, facts, shelf.known, book):
        return False
    return not any([new_heads(rule, shelf, shelf.known, enough=1) for rule in rules])


def derivation(rules, facts, fact):
    """Return a derivation of least depth of the fact in the model, or None, or raise as model."""
    known = find_model(rules, facts).shelf.known
    if fact not in known:
        return None
    findings = Findings(facts)
    # With all rules at once each fact is found in the round of its least depth.
    findings.close(list(enumerate(rules)), known)
    needed = {fact: True}
    waiting = [fact]
    while waiting:
        at = waiting.pop()
        for other in _facts_held(rules, findings.reasons[at]):
            if other not in needed:
                needed[other] = True
                waiting.append(other)
    return [step for step in list(findings.reasons.items()) if step[0] in needed]


def accepts_derivation(rules, facts, known, steps):
    """Tell if steps are a derivation of their last fact in the list of facts `known`."""
    stated = [fact for fact, reason in steps]
    if not steps or len(set(stated)) != len(stated):
        return False
    if not _are_reasons_right(rules, facts, {fact: True for fact in known}, steps):
        return False
    # A fact that a step holds stands ahead of it: so whoever needs a fact is a later step.
    needed = {stated[-1]: True}
    for _, reason in steps:
        needed.update({fact: True for fact in _facts_held(rules, reason)})
    return all([fact in needed for fact in stated])


def _facts_held(rules, reason):
    """Return the list of the facts of the `holds` items of the instance of a reason."""
    if reason[0] == "given":
        return []
    _, number, pairs = reason
    return [bind(atom, dict(pairs)) for atom in atoms_of(rules[number][1], ("holds",))]


def _are_reasons_right(rules, facts, denied, steps):
    """Tell if each step has a reason as told; `denied` has the facts of which those of `fails` items must be none."""
    given = {fact: True for fact in facts}
    earlier = {}
    for fact, reason in steps:
        if reason[0] == "given":
            is_right = fact in given
        else:
            is_right = _is_instance(rules, reason, fact)
            is_right = is_right and all([other in earlier for other in _facts_held(rules, reason)])
            is_right = is_right and _are_checks_met(rules, reason, denied)
        if not is_right:
            return False
        earlier[fact] = True
    return True


def _is_instance(rules, reason, fact):
    """Tell if a reason gives an instance of a rule that has the fact as its head."""
    _, number, pairs = reason
    if not 0 <= number < len(rules):
        return False
    if sorted([name for name, constant in pairs]) != variables_of(rules[number]):
        return False
    return bind(rules[number][0], dict(pairs)) == fact


def _are_checks_met(rules, reason, denied):
    _, number, pairs = reason
    checks = [item for item in rules[number][1] if item[0] != "holds"]
    return all([is_check_met(item, dict(pairs), denied) for item in checks])
