"""How the facts of a model are found, with a reason for each of them."""

from retroact.errors import TooLarge
from retroact.instances import new_heads
from retroact.rules import layers
from retroact.shelf import Shelf

MOST_GIVEN = 2000
MOST_FACTS = 5000


class Findings:
    """Facts in the order in which they were found, with their reasons; at first the given ones."""

    def __init__(self, facts):
        self.shelf = Shelf(facts)
        self.reasons = {fact: ("given",) for fact in facts}

    def close(self, numbered, denied):
        """Add heads of instances of the numbered rules, in rounds, until nothing is new, or raise TooLarge.

        In each round all heads are added of which an instance is met by the facts of the rounds before it.
        """
        fresh = None
        is_closed = False
        while not is_closed:
            found = {}
            for number, rule in numbered:
                # One head more than there may be is enough to know that there are too many.
                enough = MOST_FACTS + 1 - len(self.reasons)
                heads = new_heads(rule, self.shelf, denied, fresh=fresh, enough=enough)
                for head in heads:
                    found.setdefault(head, ("rule", number, sorted(heads[head].items())))
                if len(self.reasons) + len(found) > MOST_FACTS:
                    raise TooLarge("facts")
            self._take_in(found)
            fresh = Shelf(list(found))
            is_closed = not found

    def _take_in(self, found):
        for head in found:
            self.reasons[head] = found[head]
            self.shelf.put(head)


def find_model(rules, facts):
    """Return the findings of the model, or raise as check_rules, or TooLarge."""
    places = layers(rules)
    if len(facts) > MOST_GIVEN:
        raise TooLarge("facts")
    findings = Findings(facts)
    for layer in sorted(set(list(places.values()))):
        numbered = [(number, rule) for number, rule in enumerate(rules) if places[rule[0][0]] == layer]
        # What rules of this layer deny belongs to layers below it, which are complete.
        findings.close(numbered, findings.shelf.known)
    return findings
