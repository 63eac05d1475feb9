"""Facts, and tables in which they are found by some of their constants."""


class Shelf:
    """Facts, each once, in the order in which they were put here."""

    def __init__(self, facts):
        self.known = {}
        # For each pair of a name and a number of constants the list of the facts.
        self.rows = {}
        # For each such pair a dict from places of constants to a table, made when it is first asked for.
        self.tables = {}
        for fact in facts:
            self.put(fact)

    def put(self, fact):
        """Put a fact behind the others, if it is not here."""
        if fact in self.known:
            return
        self.known[fact] = True
        sort = sort_of(fact)
        self.rows.setdefault(sort, []).append(fact)
        tables = self.tables.get(sort, {})
        for places in list(tables):
            tables[places].setdefault(_constants_at(places, fact), []).append(fact)

    def has_any(self, atom):
        """Tell if there are facts of the name and the number of constants of an atom."""
        return sort_of(atom) in self.rows

    def matching(self, atom, places, constants):
        """Return the facts of an atom's name and number of constants that have these constants at the places."""
        sort = sort_of(atom)
        tables = self.tables.setdefault(sort, {})
        if places not in tables:
            table = {}
            for fact in self.rows.get(sort, []):
                table.setdefault(_constants_at(places, fact), []).append(fact)
            tables[places] = table
        return tables[places].get(constants, [])


def sort_of(atom):
    """Return the pair of the name and the number of terms of an atom, or of constants of a fact."""
    name, terms = atom
    return (name, len(terms))


def _constants_at(places, fact):
    """Return the tuple of the constants of a fact at the places."""
    return tuple([fact[1][place] for place in places])
