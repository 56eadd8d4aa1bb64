"""Programs of partitions: a Source as an image."""

from merestone.config import PAGE, VIRTUAL, Partition
from merestone.errors import TooLarge
from merestone.generating import pieces_of, size_of_name
from merestone.laying import Plan, code_of
from merestone.trees import unrolled

# How many registers an expression may need.
REGISTERS = 5


def need_of_first(expression):
    """How many registers an expression that is no operation needs."""
    kind = expression[0]
    if kind == "not":
        return need_of(expression[1])
    if kind == "item":
        return need_of(expression[2])
    return 1


def need_of(expression):
    """How many registers an expression needs."""
    first, operations = unrolled(expression)
    need = need_of_first(first)
    for operation in operations:
        if operation[0] == "op":
            need = max(need, need_of(operation[3]) + 1)
    return need


def need_of_statement(statement):
    """How many registers a statement needs."""
    kind = statement[0]
    if kind == "put":
        return max(need_of(statement[2]), need_of(statement[3]) + 1)
    if kind in ("set", "send"):
        return need_of(statement[2])
    if kind == "if":
        return max(need_of(statement[1]), need_of_all(statement[2]), need_of_all(statement[3]))
    if kind == "while":
        return max(need_of(statement[1]), need_of_all(statement[2]))
    return 0


def need_of_all(statements):
    """How many registers statements need."""
    return max([need_of_statement(statement) for statement in statements], default=0)


def own_words(source):
    """The words of the variables and tables at first."""
    words = []
    for declared in source.names:
        if declared[0] == "var":
            words.append(declared[2])
        elif declared[0] == "table":
            words.extend(list(declared[3]) + [0] * (declared[2] - len(declared[3])))
    return words


def pages_for(image):
    """How many own pages an image needs."""
    return (len(image) + PAGE - 1) // PAGE


def compile_source(source):
    """The image of a program."""
    if need_of_all(source.body) > REGISTERS:
        raise TooLarge("depth")
    plan = Plan(pieces_of(source))
    words = own_words(source)
    if plan.behind + len(words) > VIRTUAL * PAGE:
        raise TooLarge("words")
    image = code_of(plan) + words
    for declared in source.names:
        if declared[0] == "page" and declared[2] < pages_for(image) * PAGE:
            raise TooLarge("page")
    return image


def addresses(source):
    """The addresses of the variables and tables of a program."""
    found = {}
    at = Plan(pieces_of(source)).behind
    for declared in source.names:
        if declared[0] != "page":
            found[declared[1]] = at
        at += size_of_name(declared)
    return found


def partition_of(source):
    """The Partition of a program."""
    image = compile_source(source)
    return Partition(image, pages_for(image), 0)
