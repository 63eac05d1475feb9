"""The instances of rules that are met by facts."""

from retroact.rules import bind
from retroact.terms import extended, is_true, is_variable, terms_of, variables_in, worth_of


class Station:
    """A place on the way through a rule's items: what is checked there, and the atom whose facts lead on from it."""

    def __init__(self, checks, needed, is_head_bound):
        self.checks = checks
        self.needed = needed
        self.is_head_bound = is_head_bound
        self.seen = {}
        self.atom = None
        self.places = ()
        self.shelf = None


class Way:
    """The stations of a rule, and the items that are not yet on the way."""

    def __init__(self, rule):
        self.head, items = rule
        self.left = [item for item in items if item[0] == "holds"]
        self.checks = [item for item in items if item[0] != "holds"]
        self.bound = {}
        self.stations = []
        self._add_station()

    def best_item(self):
        """Return the item of which the most terms have a constant."""
        return max(self.left, key=lambda item: len(self._places_of(item)))

    def lead_on(self, item, shelf):
        """Let the facts of an item, which are on the shelf, lead to a further station."""
        station = self.stations[-1]
        station.atom = item[1]
        station.places = self._places_of(item)
        station.shelf = shelf
        self.left.remove(item)
        self.bound.update({name: True for name in variables_in(terms_of(item))})
        self._add_station()

    def _places_of(self, item):
        """Return the places of an item's terms that have a constant."""
        terms = terms_of(item)
        return tuple([place for place, term in enumerate(terms) if not is_variable(term) or term[1] in self.bound])

    def _is_bound(self, terms):
        return all([name in self.bound for name in variables_in(terms)])

    def _add_station(self):
        checks = [item for item in self.checks if self._is_bound(terms_of(item))]
        self.checks = [item for item in self.checks if not self._is_bound(terms_of(item))]
        ahead = list(self.head[1])
        for item in self.left + self.checks:
            ahead.extend(terms_of(item))
        needed = [name for name in variables_in(ahead) if name in self.bound]
        self.stations.append(Station(checks, needed, self._is_bound(self.head[1])))


class Search:
    """Goes the ways of a rule and notes the heads of its instances that are met, until it has found enough."""

    def __init__(self, head, shelf, denied, enough):
        self.head = head
        self.shelf = shelf
        self.denied = denied
        self.enough = enough
        # The constants of an instance for each head that was found.
        self.found = {}

    def go(self, stations, at, constants):
        """Go on from the station with this index, with constants for the variables that are bound."""
        station = stations[at]
        if len(self.found) >= self.enough or not self._is_worth_going(station, constants):
            return
        if station.atom is None:
            self.found[bind(self.head, constants)] = constants
            return
        terms = station.atom[1]
        key = tuple([worth_of(terms[place], constants) for place in station.places])
        for fact in station.shelf.matching(station.atom, station.places, key):
            more = extended(terms, fact, constants)
            if more is not None:
                self.go(stations, at + 1, more)

    def _is_worth_going(self, station, constants):
        """Tell if the way may lead from the station to a new head, on which no other way has led."""
        if station.is_head_bound:
            head = bind(self.head, constants)
            if head in self.shelf.known or head in self.found:
                return False
        if not all([is_check_met(item, constants, self.denied) for item in station.checks]):
            return False
        # What lies ahead depends on these constants alone.
        key = tuple([constants[name] for name in station.needed])
        is_new = key not in station.seen
        station.seen[key] = True
        return is_new


def new_heads(rule, shelf, denied, *, fresh=None, enough):
    """Return a dict from heads that are not on the shelf to the constants of an instance that is met.

    The facts of `holds` items are on the shelf, with `fresh` at least one of them on that shelf, too; `denied` has
    the facts of which those of `fails` items must be none. The search ends when there are enough heads.
    """
    head, items = rule
    search = Search(head, shelf, denied, enough)
    if fresh is None:
        search.go(_stations_of(rule, shelf, None, None), 0, {})
        return search.found
    for item in items:
        if item[0] == "holds" and fresh.has_any(item[1]):
            search.go(_stations_of(rule, shelf, item, fresh), 0, {})
    return search.found


def is_check_met(item, constants, denied):
    """Tell if an item is met that is no `holds` item; `denied` has the facts of which a `fails` item's must be none."""
    if item[0] == "fails":
        return bind(item[1], constants) not in denied
    return is_true(item, constants)


def _stations_of(rule, shelf, first, fresh):
    """Return the stations of a rule; if there is a first item, its facts are fresh."""
    way = Way(rule)
    if first is not None:
        way.lead_on(first, fresh)
    while way.left:
        way.lead_on(way.best_item(), shelf)
    return way.stations
