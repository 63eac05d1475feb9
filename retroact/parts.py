"""The parts of expressions and statements."""


def leaves_of(expression):
    """Return the list of the numbers and names, ("number", n) and ("name", name), in an expression."""
    leaves = []
    parts = [expression]
    while parts:
        part = parts.pop()
        if part[0] in ("number", "name"):
            leaves.append(part)
        else:
            parts.extend(part[1:])
    return leaves


def lists_of(statement):
    """Return the lists of statements that stand directly in a statement."""
    if statement[0] == "if":
        return [statement[2], statement[3]]
    if statement[0] == "repeat":
        return [statement[2]]
    return []


def arguments_of(statement):
    """Return the list of the arguments of a send, a spawn or a call, otherwise an empty one."""
    if statement[0] == "send":
        return statement[3]
    if statement[0] in ("spawn", "call"):
        return statement[2]
    return []


def expressions_of(statement):
    """Return the list of the expressions that stand directly in a statement."""
    word = statement[0]
    if word == "set":
        return [statement[2]]
    if word in ("if", "repeat"):
        return [statement[1]]
    if word == "send" and statement[1][0] == "child":
        return [statement[1][1]] + statement[3]
    return arguments_of(statement)


def name_given(statement):
    """Return the name behind `set` or `spawn`, or None for other statements."""
    if statement[0] == "set":
        return statement[1]
    if statement[0] == "spawn":
        return statement[3]
    return None


def walk(body):
    """Return a row (statement, depth, repeats) for each statement in all lists, in the order of writing.

    The depth counts the lists, and repeats the `repeat`, that the statement stands in.
    """
    rows = []
    waiting = [(statement, 1, 0) for statement in body[::-1]]
    while waiting:
        statement, depth, repeats = waiting.pop()
        rows.append((statement, depth, repeats))
        if statement[0] == "repeat":
            repeats += 1
        for inner in lists_of(statement)[::-1]:
            waiting.extend([(below, depth + 1, repeats) for below in inner[::-1]])
    return rows
