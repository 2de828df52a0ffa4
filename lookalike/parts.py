"""What stands in expressions, statements and blocks of right programs.

The walks keep lists of what is still to be gone through instead of calling
themselves: so programs may stand as deep within one another as texts tell.
"""


def expression_parts(expression):
    """The expressions that stand directly in this one, in order."""
    word = expression[0]
    if word == "at":
        return (expression[2],)
    if word == "op":
        return (expression[2], expression[3])
    if word == "call":
        return expression[2]
    return ()


def statement_expressions(statement):
    """The expressions that stand directly in a statement, in order."""
    word = statement[0]
    if word in ("set", "out"):
        return (statement[2],)
    if word == "put":
        return (statement[2], statement[3])
    if word in ("if", "while"):
        return (statement[1],)
    return ()


def statement_blocks(statement):
    """The blocks that stand directly in a statement, in order."""
    word = statement[0]
    if word == "if":
        return (statement[2], statement[3])
    if word in ("while", "times"):
        return (statement[2],)
    return ()


def expressions_within(expressions):
    """These expressions, and all that stand within them."""
    found = []
    waiting = list(expressions)
    while waiting:
        expression = waiting.pop()
        found.append(expression)
        waiting.extend(expression_parts(expression))
    return found


def statements_within(blocks):
    """All statements of these blocks, and those within them."""
    found = []
    waiting = list(blocks)
    while waiting:
        block = waiting.pop()
        for statement in block:
            found.append(statement)
            waiting.extend(statement_blocks(statement))
    return found


def calls_within(expressions):
    """All calls in these expressions, those in args too."""
    return [part for part in expressions_within(expressions) if part[0] == "call"]
