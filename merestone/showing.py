"""Programs of partitions: a Source as a text."""

from merestone.trees import unrolled


def shown_first(expression):
    """The text of an expression that is no operation."""
    kind = expression[0]
    if kind == "number":
        return str(expression[1])
    if kind == "name":
        return expression[1]
    if kind == "not":
        return "~" + shown(expression[1])
    return expression[1] + "[" + shown(expression[2]) + "]"


def shown(expression):
    """The text of an expression."""
    first, operations = unrolled(expression)
    text = shown_first(first)
    for operation in operations:
        if operation[0] == "shift":
            second = str(operation[3])
        else:
            second = shown(operation[3])
        text = "(" + text + " " + operation[1] + " " + second + ")"
    return text


def shown_name(declared):
    """The line of a declaration."""
    if declared[0] == "table":
        _, name, size, words = declared
        line = f"table {name} {size}"
        if len(words) > 0:
            line += " = " + ", ".join([str(word) for word in words])
        return line
    if declared[0] == "page":
        _, name, address, size = declared
        return f"page {name} {address} {size}"
    _, name, word = declared
    return f"var {name} = {word}"


def shown_send(statement):
    """The line of `send`."""
    _, channel, word, name = statement
    line = f"send {channel}, " + shown(word)
    if name != "":
        line += " into " + name
    return line


def shown_plain(statement):
    """The line of a statement that has no blocks."""
    kind = statement[0]
    if kind == "set":
        return statement[1] + " := " + shown(statement[2])
    if kind == "put":
        return statement[1] + "[" + shown(statement[2]) + "] := " + shown(statement[3])
    if kind == "send":
        return shown_send(statement)
    if kind == "receive":
        _, channel, told, name = statement
        return f"receive {channel} into {told}, {name}"
    if kind == "frame":
        return "frame into " + statement[1]
    return kind


def further_in(lines):
    """Lines two spaces further in."""
    return ["  " + line for line in lines]


def lines_of(statement):
    """The lines of a statement."""
    kind = statement[0]
    if kind not in ("if", "while"):
        return [shown_plain(statement)]
    lines = [kind + " " + shown(statement[1]) + " {"] + further_in(lines_of_all(statement[2]))
    if kind == "if" and len(statement[3]) > 0:
        lines.append("} else {")
        lines.extend(further_in(lines_of_all(statement[3])))
    return lines + ["}"]


def lines_of_all(statements):
    """The lines of statements."""
    lines = []
    for statement in statements:
        lines.extend(lines_of(statement))
    return lines


def print_source(source):
    """The text of a Source."""
    lines = [shown_name(declared) for declared in source.names] + lines_of_all(source.body)
    return "".join([line + "\n" for line in lines])
