"""How programs and expressions are written."""

SIGNS = {
    "plus": "+", "minus": "-", "times": "*", "over": "/", "rest": "rest",
    "less": "<", "atmost": "<=", "same": "=", "and": "and", "or": "or",
}


def write_program(program):
    """Return the text of a program."""
    lines = [f"effect {name} {count}" for name, count in program.effects]
    for actor in program.actors:
        lines.extend(_actor_lines(actor))
    return "".join([line + "\n" for line in lines])


def write_expression(expression):
    """Return the written form of an expression."""
    # The pieces that are still to be written, the next one last, so that no expression is too deep.
    waiting = [expression]
    texts = []
    while waiting:
        piece = waiting.pop()
        if isinstance(piece, str):
            texts.append(piece)
        else:
            waiting.extend(_pieces(piece)[::-1])
    return "".join(texts)


def _pieces(expression):
    """Return the list of the texts and of the parts that an expression is written with."""
    word = expression[0]
    if word in ("number", "name"):
        return [str(expression[1])]
    if word == "not":
        return ["not "] + _part(expression[1])
    if word == "negative":
        return ["-"] + _signed_part(expression[1])
    return _part(expression[1]) + [f" {SIGNS[word]} "] + _part(expression[2])


def _part(part):
    if part[0] == "name" or (part[0] == "number" and part[1] >= 0):
        return [part]
    return ["(", part, ")"]


def _signed_part(part):
    # Without parentheses the sign would make another number.
    if part[0] == "number":
        return ["(", part, ")"]
    return _part(part)


def _actor_lines(actor):
    lines = [f"actor {actor.name}{_enclosed(actor.parameters)}"]
    for name, expression in actor.states:
        lines.append(f"  state {name} = {write_expression(expression)}")
    for message, parameters, body in actor.handlers:
        lines.append(f"  on {message}{_enclosed(parameters)}")
        lines.extend(_list_lines(body, "    "))
        lines.append("  end")
    return lines + ["end"]


def _list_lines(body, indent):
    lines = []
    for statement in body:
        if statement[0] in ("if", "repeat"):
            lines.extend(_outer_lines(statement, indent))
        else:
            lines.append(indent + _line(statement))
    return lines


def _outer_lines(statement, indent):
    """Return the lines of a statement with lists in it."""
    inner = indent + "  "
    lines = [f"{indent}{statement[0]} {write_expression(statement[1])}"]
    lines.extend(_list_lines(statement[2], inner))
    if statement[0] == "if" and statement[3]:
        lines.append(indent + "else")
        lines.extend(_list_lines(statement[3], inner))
    return lines + [indent + "end"]


def _line(statement):
    word = statement[0]
    if word == "set":
        return f"set {statement[1]} = {write_expression(statement[2])}"
    if word == "send":
        return f"send {_target(statement[1])} {statement[2]}{_arguments(statement[3])}"
    if word == "spawn":
        return f"spawn {statement[1]}{_arguments(statement[2])} as {statement[3]}"
    if word == "call":
        then = "" if statement[3] is None else f" then {statement[3]}"
        return f"call {statement[1]}{_arguments(statement[2])}{then}"
    return word


def _target(target):
    if target[0] == "child":
        return f"child({write_expression(target[1])})"
    return target[0]


def _arguments(arguments):
    return _enclosed([write_expression(argument) for argument in arguments])


def _enclosed(texts):
    return "(" + ", ".join(texts) + ")" if texts else ""
