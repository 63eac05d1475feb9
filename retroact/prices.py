"""Price lists: what it costs to undo, to do and to change calls."""

from retroact.errors import InvalidPrices, UnknownEffect

GREATEST_PRICE = 1000000


class Prices:
    """What undoing, doing and changing a call of each effect costs."""

    def __init__(self, effects):
        for name in sorted(effects):
            if not _are_prices(effects[name]):
                raise InvalidPrices(name)
        self.effects = dict(effects)


def undo_cost(prices, call):
    """Return the cost of undoing a call, or raise UnknownEffect."""
    check_effects(prices, [call])
    return prices.effects[call[1]][0]


def do_cost(prices, call):
    """Return the cost of doing a call, or raise UnknownEffect."""
    check_effects(prices, [call])
    return prices.effects[call[1]][1]


def change_cost(prices, first, second):
    """Return the cost of changing a call into another one, or None if it cannot be done, or raise UnknownEffect."""
    check_effects(prices, [first, second])
    change = prices.effects[first[1]][2]
    if change is None or first[1] != second[1]:
        return None
    base, each = change
    return base + each * sum([abs(number - other) for number, other in zip(first[2], second[2])])


def check_effects(prices, calls):
    """Raise UnknownEffect for the first call of a list whose effect the price list does not have."""
    for _, effect, _ in calls:
        if effect not in prices.effects:
            raise UnknownEffect(effect)


def _are_prices(numbers):
    """Tell if the numbers of an effect are as described."""
    if len(numbers) != 3:
        return False
    undo, do, change = numbers
    if change is None:
        return _is_price(undo) and _is_price(do)
    if not isinstance(change, tuple) or len(change) != 2:
        return False
    return all([_is_price(number) for number in (undo, do, *change)])


def _is_price(number):
    if not isinstance(number, int) or isinstance(number, bool):
        return False
    return 0 <= number <= GREATEST_PRICE
