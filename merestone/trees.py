"""Expressions of programs: the ops that stand for their signs, and how they are gone through."""

# The branch that is taken if a comparison holds.
BRANCHES = {"==": "beq", "!=": "bne", "<": "blt"}

OPERATIONS = {"+": "add", "-": "sub", "*": "mul", "&": "and", "|": "or", "^": "xor", "<<": "shl", ">>": "shr"}


def unrolled(expression):
    """The first part of an expression that is no operation, and the operations above it, innermost first.

    A sum of many terms is a deep tree, but only to the left: what is gone through by this list needs recursion for
    the second parts alone.
    """
    operations = []
    while expression[0] in ("op", "shift"):
        operations.append(expression)
        expression = expression[2]
    return (expression, operations[::-1])
