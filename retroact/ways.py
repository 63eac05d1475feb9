"""How handlers are run, and actors begun, for all values of the unknown at once."""

from retroact.crowded import MOST_WAYS
from retroact.handlers import MOST_DEEDS, MOST_TURNS, Outcome, locals_of
from retroact.reckoning import add_fault, within
from retroact.tracks import along, cut_to, domain_of, one_domain, one_track, truth_of


class Way:
    """What a run has made so far for the numbers of a domain: the tracks of its names, and its deeds with tracks."""

    def __init__(self, domain, names, deeds):
        self.domain = domain
        self.names = dict(names)
        self.deeds = list(deeds)


class Runs:
    """The runs of a handler for all numbers of a domain, which go different ways.

    Ways with the same deeds, but for the numbers in them, are one way again where they meet.
    """

    def __init__(self, spawned, reckoning):
        self.spawned = spawned
        self.reckoning = reckoning
        self.stopped = []
        # A dict from reasons to the intervals of the numbers whose runs have failed.
        self.faults = {}

    def run_list(self, ways, body):
        """Return the ways behind a list of statements of those that have not ended."""
        for statement in body:
            if ways:
                ways = self._run_statement(ways, statement)
        return ways

    def met(self, ways):
        """Return the ways as few as they are."""
        alike = {}
        for way in ways:
            alike.setdefault(tuple([_shape_of(deed) for deed in way.deeds]), []).append(way)
        return [self._one_way(alike[shape]) for shape in alike]

    def _run_statement(self, ways, statement):
        word = statement[0]
        if word == "if":
            return self._run_if(ways, statement)
        if word == "repeat":
            return self._run_repeat(ways, statement)
        if word == "stop":
            self.stopped.extend(ways)
            if len(self.stopped) > MOST_WAYS:
                self.stopped = self.met(self.stopped)
                self._check(self.stopped)
            return []
        found = []
        for way in ways:
            found.extend([part for part in self._run_plain(way, statement) if part.domain])
            self._check(found)
        return found

    def _run_plain(self, way, statement):
        """Return the ways behind a statement that has no lists, of which some may have no numbers left."""
        word = statement[0]
        if word == "set":
            way.names[statement[1]] = self._reckon(way, statement[2])
        elif word == "fail":
            self._fail(way, "fail")
        elif word == "send":
            return self._run_send(way, statement)
        elif word == "spawn":
            self._add_deed(way, ("spawn", statement[1], self._reckon_all(way, statement[2])))
            many = len([deed for deed in way.deeds if deed[0] == "spawn"])
            way.names[statement[3]] = along(way.domain, 0, self.spawned + many - 1)
        else:
            self._add_deed(way, ("call", statement[1], self._reckon_all(way, statement[2]), statement[3]))
        return [way]

    def _run_if(self, ways, statement):
        first = []
        second = []
        for way in ways:
            yes, no = truth_of(self._reckon(way, statement[1]))
            if yes:
                first.append(Way(yes, way.names, way.deeds))
            if no:
                second.append(Way(no, way.names, way.deeds))
        return self.met(self.run_list(first, statement[2]) + self.run_list(second, statement[3]))

    def _run_repeat(self, ways, statement):
        groups = {}
        for way in ways:
            turns = within(self._reckon(way, statement[1]), (0, MOST_TURNS), "count", self.faults)
            for number, domain in self.reckoning.by_numbers(turns):
                groups.setdefault(number, []).append(Way(domain, way.names, way.deeds))
        found = []
        for number in sorted(groups):
            group = groups[number]
            for _ in range(number):
                group = self.met(self.run_list(group, statement[2]))
            found.extend(group)
        return self.met(found)

    def _run_send(self, way, statement):
        _, target, message, expressions = statement
        if target[0] != "child":
            self._add_deed(way, ("send", target, message, self._reckon_all(way, expressions)))
            return [way]
        numbers = self._reckon(way, target[1])
        arguments = self._reckon_all(way, expressions)
        found = []
        for number, domain in self.reckoning.by_numbers(cut_to(numbers, way.domain)):
            part = Way(domain, way.names, way.deeds)
            self._add_deed(part, ("send", ("child", number), message, arguments))
            found.append(part)
        return found

    def _reckon(self, way, expression):
        """Return the track of an expression; the way has its numbers from now on."""
        track = self.reckoning.reckon(expression, way.names, way.domain, self.faults)
        way.domain = domain_of(track)
        return track

    def _reckon_all(self, way, expressions):
        return tuple([self._reckon(way, expression) for expression in expressions])

    def _add_deed(self, way, deed):
        if len(way.deeds) >= MOST_DEEDS:
            self._fail(way, "deeds")
        else:
            way.deeds.append(deed)

    def _fail(self, way, reason):
        for least, greatest in way.domain:
            add_fault(self.faults, reason, least, greatest)
        way.domain = []

    def _check(self, ways):
        """Raise Crowded or TooLarge if there are too many ways."""
        if len(ways) > MOST_WAYS:
            self.reckoning.check_room(sorted([way.domain[0] for way in ways]), MOST_WAYS)

    def _one_way(self, ways):
        if len(ways) == 1:
            return ways[0]
        domains = [way.domain for way in ways]
        names = {name: self._one_track([way.names[name] for way in ways], domains) for name in ways[0].names}
        deeds = []
        for at, deed in enumerate(ways[0].deeds):
            place = _place_of_arguments(deed)
            arguments = tuple([self._one_track([way.deeds[at][place][k] for way in ways], domains)
                               for k in range(len(deed[place]))])
            deeds.append((*deed[:place], arguments, *deed[place + 1:]))
        return Way(one_domain(domains), names, deeds)

    def _one_track(self, tracks, domains):
        return self.reckoning.checked(one_track(tracks, domains))


def run_all(handler, states, spawned, arguments, domain, reckoning):
    """Return the list of the pairs (domain, outcome) of the runs of a handler; the outcomes have tracks."""
    _, parameters, body = handler
    given = dict(zip(parameters, arguments))
    names = {name: along(domain, 0, 0) for name in locals_of(body, list(states) + list(given))}
    names.update(states)
    names.update(given)
    runs = Runs(spawned, reckoning)
    done = runs.met(runs.run_list([Way(domain, names, [])], body))
    found = []
    for kind, ways in (("done", done), ("stopped", runs.met(runs.stopped))):
        for way in ways:
            # A state that a parameter hides was never reached by its name.
            after = {name: states[name] if name in parameters else way.names[name] for name in states}
            found.append((way.domain, Outcome(kind, after, way.deeds)))
    for reason in sorted(runs.faults):
        found.append((one_domain([runs.faults[reason]]), Outcome("failed", states, [], reason)))
    return found


def begin_all(actor, arguments, domain, reckoning):
    """Return (states, domain, failed): the tracks with which an actor begins, where it begins, and where it fails."""
    names = dict(zip(actor.parameters, arguments))
    begun = {}
    faults = {}
    for name, expression in actor.states:
        begun[name] = reckoning.reckon(expression, names, domain, faults)
        names[name] = begun[name]
        domain = domain_of(begun[name])
    return (begun, domain, one_domain([faults[reason] for reason in faults]))


def _place_of_arguments(deed):
    return 3 if deed[0] == "send" else 2


def _shape_of(deed):
    """Return what a deed is besides the numbers of its arguments."""
    place = _place_of_arguments(deed)
    return (*deed[:place], len(deed[place]), *deed[place + 1:])
