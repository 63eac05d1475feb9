"""Rules: when they are proper and layered; and facts, and their order."""

from retroact.errors import InvalidRules, NotLayered, TooLarge
from retroact.terms import atoms_of, terms_of, variables_in, variables_of, worth_of

MOST_RULES = 40
MOST_ITEMS = 8


def check_rules(rules):
    """Raise TooLarge, InvalidRules or NotLayered if the rules cannot be used."""
    if len(rules) > MOST_RULES or any([len(items) > MOST_ITEMS for head, items in rules]):
        raise TooLarge("rules")
    counts = {}
    for number, rule in enumerate(rules):
        if not _is_proper(rule, counts):
            raise InvalidRules(number)
        counts.update({name: len(terms) for name, terms in _atoms_of_rule(rule)})
    names = _names_of_denying_chains(rules)
    if names:
        raise NotLayered(names)


def layers(rules):
    """Return a dict from the names of the rules' atoms to their layers, or raise as check_rules."""
    check_rules(rules)
    found = {name: 0 for name in _names_of(rules)}
    leans = _leans_of(rules)
    # No chain comes back with a denial, so that the layers stop growing.
    is_settled = False
    while not is_settled:
        is_settled = True
        for name, other, denials in leans:
            if found[name] < found[other] + denials:
                found[name] = found[other] + denials
                is_settled = False
    return found


def fact_key(fact):
    """Return a key that sorts facts into their order."""
    name, constants = fact
    return (name, tuple([_constant_key(constant) for constant in constants]))


def sorted_facts(facts):
    """Return the list of the facts in order, each once."""
    return sorted(list({fact: True for fact in facts}), key=fact_key)


def bind(atom, constants):
    """Return the fact of an atom with constants for its variables, or None if one is missing."""
    name, terms = atom
    if any([variable not in constants for variable in variables_in(terms)]):
        return None
    return (name, tuple([worth_of(term, constants) for term in terms]))


def _constant_key(constant):
    # Constants of different kinds are never compared with one another: their first numbers decide.
    if isinstance(constant, int):
        return (0, constant)
    if isinstance(constant, str):
        return (1, constant)
    return (2, constant)


def _atoms_of_rule(rule):
    """Return the list of all atoms of a rule."""
    head, items = rule
    return [head] + atoms_of(items, ("holds", "fails"))


def _names_of(rules):
    """Return the ascending list of the names of all atoms of the rules."""
    return sorted(set([name for rule in rules for name, terms in _atoms_of_rule(rule)]))


def _is_proper(rule, counts):
    """Tell if a rule is proper; `counts` has the numbers of terms of the names of the rules before it."""
    held = [variable for item in rule[1] if item[0] == "holds" for variable in variables_in(terms_of(item))]
    if any([variable not in held for variable in variables_of(rule)]):
        return False
    own = {}
    for name, terms in _atoms_of_rule(rule):
        if own.setdefault(name, counts.get(name, len(terms))) != len(terms):
            return False
    return True


def _leans_of(rules):
    """Return a list of rows (name, other, denials): the name leans on the other one, with 0 or 1 denials."""
    leans = []
    for (name, _), items in rules:
        leans.extend([(name, other, 0) for other, terms in atoms_of(items, ("holds",))])
        leans.extend([(name, other, 1) for other, terms in atoms_of(items, ("fails",))])
    return leans


def _names_of_denying_chains(rules):
    """Return the ascending list of the names on chains that come back with a denial on the way."""
    leans = _leans_of(rules)
    nexts = {name: [] for name in _names_of(rules)}
    for name, other, _ in leans:
        nexts[name].append(other)
    reached = {name: _reached_from(name, nexts) for name in nexts}
    denials = [(name, other) for name, other, many in leans if many]
    found = {}
    for name in nexts:
        for denying, denied in denials:
            # A chain to the denial and back again may go by any names on its way.
            if denying in reached[name] and name in reached[denied]:
                found[name] = True
    return sorted(found)


def _reached_from(name, nexts):
    """Return a dict that has the name and all names that chains from it come to."""
    reached = {name: True}
    waiting = [name]
    while waiting:
        at = waiting.pop()
        for other in nexts[at]:
            if other not in reached:
                reached[other] = True
                waiting.append(other)
    return reached
