"""Plans of settling calls, what they cost, and the papers that show that no plan costs less."""

from retroact.errors import TooLarge
from retroact.prices import change_cost, check_effects, do_cost, undo_cost
from retroact.settling import settle

MOST_CALLS = 12


def is_plan(there, here, prices, deeds):
    """Tell if a list of deeds is a plan for the calls, or raise UnknownEffect."""
    check_effects(prices, there + here)
    lefts = [deed[1] for deed in deeds if deed[0] != "do"]
    rights = [deed[-1] for deed in deeds if deed[0] != "undo"]
    if sorted(lefts) != list(range(len(there))) or sorted(rights) != list(range(len(here))):
        return False
    pairs = [(there[deed[1]], here[deed[2]]) for deed in deeds if deed[0] == "change"]
    return all([change_cost(prices, call, other) is not None for call, other in pairs])


def cost(there, here, prices, deeds):
    """Return the cost of a plan, or raise UnknownEffect."""
    check_effects(prices, there + here)
    total = 0
    for deed in deeds:
        if deed[0] == "undo":
            total += undo_cost(prices, there[deed[1]])
        elif deed[0] == "do":
            total += do_cost(prices, here[deed[1]])
        else:
            total += change_cost(prices, there[deed[1]], here[deed[2]])
    return total


def plan(there, here, prices):
    """Return the tuple (deeds, paper) of a plan of least cost, or raise TooLarge or UnknownEffect."""
    if len(there) > MOST_CALLS or len(here) > MOST_CALLS:
        raise TooLarge("calls")
    check_effects(prices, there + here)
    undos = [undo_cost(prices, call) for call in there]
    dos = [do_cost(prices, call) for call in here]
    changes = [[change_cost(prices, call, other) for other in here] for call in there]
    partners, paper = settle(undos, dos, changes)
    deeds = [("undo", i) if j is None else ("change", i, j) for i, j in enumerate(partners)]
    return ([*deeds, *[("do", j) for j in range(len(here)) if j not in partners]], paper)


def is_fair(there, here, prices, paper):
    """Tell if a paper is fair for the calls, or raise UnknownEffect."""
    check_effects(prices, there + here)
    lefts, rights = paper
    if len(lefts) != len(there) or len(rights) != len(here):
        return False
    if any([left > undo_cost(prices, call) for left, call in zip(lefts, there)]):
        return False
    if any([right > do_cost(prices, call) for right, call in zip(rights, here)]):
        return False
    for left, call in zip(lefts, there):
        for right, other in zip(rights, here):
            change = change_cost(prices, call, other)
            if change is not None and left + right > change:
                return False
    return True


def accepts(there, here, prices, deeds, paper):
    """Tell if a paper is accepted for a plan, or raise UnknownEffect."""
    if not is_plan(there, here, prices, deeds) or not is_fair(there, here, prices, paper):
        return False
    lefts, rights = paper
    return sum(lefts) + sum(rights) == cost(there, here, prices, deeds)
