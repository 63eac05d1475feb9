"""What the tests of rules need: short forms, random rules and facts, and the slow ways that the document tells plainly."""

import random

from retroact.errors import NotLayered
from retroact.rules import check_rules, layers

CONSTANTS = (0, 1, 2, -1, "a", "b", (), (0,), (0, 1))
# The names that random rules and facts have, with their numbers of terms.
TERMS = {"edge": 2, "spot": 1, "pair": 2, "some": 1, "other": 2, "far": 1, "flag": 0, "three": 3}
GIVEN = ("edge", "spot")

X, Y, Z = ("variable", "x"), ("variable", "y"), ("variable", "z")
WAY = [(("way", (X, Y)), [("holds", ("edge", (X, Y)))]),
       (("way", (X, Z)), [("holds", ("way", (X, Y))), ("holds", ("edge", (Y, Z)))])]
LOST = (("lost", (X, Y)), [("holds", ("spot", (X,))), ("holds", ("spot", (Y,))), ("fails", ("way", (X, Y)))])
RULES = WAY + [LOST]
FACTS = [("edge", (1, 2)), ("edge", (2, 3)), ("spot", (1,)), ("spot", (3,))]


def holds(name, *terms):
    return ("holds", (name, terms))


def fails(name, *terms):
    return ("fails", (name, terms))


def rule(name, terms, *items):
    return ((name, tuple(terms)), list(items))


def is_variable(term):
    return isinstance(term, tuple) and len(term) == 2 and term[0] == "variable"


def worth(term, constants):
    return constants[term[1]] if is_variable(term) else term


def fact_of(atom, constants):
    return (atom[0], tuple([worth(term, constants) for term in atom[1]]))


def comparison(item, constants):
    first, second = worth(item[1], constants), worth(item[2], constants)
    if item[0] in ("same", "differs"):
        return (first == second) == (item[0] == "same")
    if type(first) is not int or type(second) is not int:
        return False
    return first < second or (item[0] == "atmost" and first == second)


def instances(one, facts, denied):
    """Return the pairs (head, constants) of all instances of a rule that are met, looked for in all facts."""
    head, items = one
    rows = [{}]
    for word, *rest in items:
        if word == "holds":
            name, terms = rest[0]
            found = []
            for row in rows:
                for fact in facts:
                    more = dict(row)
                    if fact[0] == name and len(fact[1]) == len(terms) and all(
                            [more.setdefault(term[1], constant) == constant if is_variable(term) else term == constant
                             for term, constant in zip(terms, fact[1])]):
                        found.append(more)
            rows = found
    for item in items:
        if item[0] == "fails":
            rows = [row for row in rows if fact_of(item[1], row) not in denied]
        elif item[0] != "holds":
            rows = [row for row in rows if comparison(item, row)]
    return [(fact_of(head, row), row) for row in rows]


def slow_model(rules, facts):
    """Return the set of the facts of the model, made layer by layer as the document tells it."""
    places = layers(rules)
    known = set(facts)
    for layer in sorted(set(places.values())):
        is_new = True
        while is_new:
            heads = {head for one in rules if places[one[0][0]] == layer for head, _ in instances(one, known, known)}
            is_new = not heads <= known
            known |= heads
    return known


def slow_depths(rules, facts, known):
    """Return a dict from the facts of the model to the least depths of their derivations."""
    depths = {fact: 0 for fact in facts}
    depth = 0
    while True:
        depth += 1
        heads = {head for one in rules for head, _ in instances(one, list(depths), known)} - set(depths)
        if not heads:
            return depths
        depths.update({head: depth for head in heads})


def slow_accepts(rules, facts, book):
    """Tell if a book is accepted, by the words of the document."""
    stated = [fact for fact, _ in book]
    if len(set(stated)) != len(stated) or not set(facts) <= set(stated):
        return False
    for at, (fact, reason) in enumerate(book):
        if not is_reason_right(rules, facts, set(stated), stated[:at], fact, reason):
            return False
    return all([head in stated for one in rules for head, _ in instances(one, stated, set(stated))])


def is_reason_right(rules, facts, denied, earlier, fact, reason):
    if reason == ("given",):
        return fact in facts
    _, number, pairs = reason
    if number not in range(len(rules)):
        return False
    head, items = rules[number]
    atoms = [head] + [item[1] for item in items if item[0] in ("holds", "fails")]
    terms = [term for _, row in atoms for term in row] + [t for item in items if item[0] not in ("holds", "fails") for t in item[1:]]
    if sorted([name for name, _ in pairs]) != sorted({term[1] for term in terms if is_variable(term)}):
        return False
    constants = dict(pairs)
    return fact_of(head, constants) == fact and all([
        fact_of(item[1], constants) in earlier if item[0] == "holds" else
        fact_of(item[1], constants) not in denied if item[0] == "fails" else comparison(item, constants) for item in items])


def depth_of(rules, steps):
    """Return the depth of a derivation."""
    depths = {}
    for fact, reason in steps:
        depths[fact] = 0
        if reason[0] == "rule":
            below = [depths[fact_of(item[1], dict(reason[2]))] for item in rules[reason[1]][1] if item[0] == "holds"]
            depths[fact] = 1 + max(below, default=0)
    return depths[steps[-1][0]]


class RuleMaker:
    """Makes random rules, which are proper, and facts."""

    def __init__(self, seed):
        self.dice = random.Random(seed)

    def term(self, names):
        if not names or self.dice.random() < 0.2:
            return self.dice.choice(CONSTANTS)
        return ("variable", self.dice.choice(names))

    def atom(self, name, names):
        return (name, tuple([self.term(names) for _ in range(TERMS[name])]))

    def rule(self):
        items = [("holds", self.atom(self.dice.choice(list(TERMS)), "xyzw")) for _ in range(self.dice.randint(0, 4))]
        bound = sorted({term[1] for _, atom in items for term in atom[1] if is_variable(term)})
        for _ in range(self.dice.randint(0, 3)):
            if self.dice.random() < 0.5:
                items.append(("fails", self.atom(self.dice.choice(list(TERMS)), bound)))
            else:
                items.append((self.dice.choice(("less", "atmost", "same", "differs")), self.term(bound), self.term(bound)))
        self.dice.shuffle(items)
        return (self.atom(self.dice.choice([name for name in TERMS if name not in GIVEN]), bound), items)

    def facts(self):
        names = [self.dice.choice(list(TERMS)) for _ in range(self.dice.randint(0, 12))]
        return [self.atom(name, "") for name in names]


def samples(many):
    """Return so many triples (rules, facts, maker) with rules that are layered, the same ones at each call."""
    found = []
    seed = 0
    while len(found) < many:
        maker = RuleMaker(seed)
        rules, facts = [maker.rule() for _ in range(maker.dice.randint(1, 7))], maker.facts()
        seed += 1
        try:
            check_rules(rules)
        except NotLayered:
            continue
        found.append((rules, facts, maker))
    return found
