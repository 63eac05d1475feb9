"""What the lines of a program's text have made so far."""

from retroact.limits import DEEPEST_LIST, DEEPEST_REPEAT, MOST_ARGUMENTS, MOST_STATEMENTS
from retroact.parts import arguments_of, lists_of, name_given
from retroact.program import Actor


class Scope:
    """The handler whose lines are read: its names, and its lists that are open, the innermost last."""

    def __init__(self, parameters, states, body):
        self.parameters = parameters
        self.states = states
        self.known = {name: True for name in parameters + states}
        self.statements = 0
        self.words = ["on"]
        self.bodies = [body]
        # The list that an `else` line would begin, for each open list that may have one.
        self.others = [None]

    def holds(self, statement):
        """Tell if the limits hold with one more statement."""
        if self.statements >= MOST_STATEMENTS or len(arguments_of(statement)) > MOST_ARGUMENTS:
            return False
        if lists_of(statement) and len(self.bodies) >= DEEPEST_LIST:
            return False
        return statement[0] != "repeat" or self.words.count("repeat") < DEEPEST_REPEAT

    def take_in(self, statement):
        """Put a statement behind the others of the innermost list; the first list in it is open then."""
        self.statements += 1
        self.bodies[-1].append(statement)
        name = name_given(statement)
        if name is not None:
            self.known[name] = True
        inner = lists_of(statement)
        if inner:
            self.words.append(statement[0])
            self.bodies.append(inner[0])
            self.others.append(inner[-1])

    def turn_over(self):
        """Open the second list of the innermost `if` instead of the first one."""
        self.words[-1] = "else"
        self.bodies[-1] = self.others[-1]

    def end_list(self):
        """Close the innermost list."""
        self.words.pop()
        self.bodies.pop()
        self.others.pop()


class Draft:
    """The effects and actors so far, and the actor and the handler whose lines are read."""

    def __init__(self):
        self.effects = {}
        self.kinds = {}
        self.actor = None
        self.scope = None
        # A row (kind, number of arguments, line, column) for each spawn.
        self.spawns = []

    def begin_actor(self, name, parameters):
        """Let the following lines be those of a new actor."""
        self.actor = Actor(name, parameters, [], [])
        self.kinds[name] = self.actor

    def begin_handler(self, message, parameters):
        """Let the following lines be those of a new handler of the actor."""
        body = []
        self.actor.handlers.append((message, parameters, body))
        self.scope = Scope(parameters, self.state_names(), body)

    def state_names(self):
        """Return the list of the names of the actor's states."""
        return [name for name, expression in self.actor.states]

    def end_part(self):
        """End what the `end` line closes: the innermost list, with the body the handler, or the actor."""
        if self.scope is None:
            self.actor = None
        else:
            self.scope.end_list()
            if not self.scope.bodies:
                self.scope = None
