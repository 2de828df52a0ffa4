"""What stands in expressions, statements and blocks of right programs.

The walks keep lists of what is still to be gone through instead of calling
themselves: so programs may stand as deep within one another as texts tell.
"""


def expression_parts(expression):
    """The expressions that stand directly in this one, in order."""
    word = expression[0]
    if word == "at":
        return (expression[2],)
    if word == "op":
        return (expression[2], expression[3])
    if word == "call":
        return expression[2]
    return ()


def statement_expressions(statement):
    """The expressions that stand directly in a statement, in order."""
    word = statement[0]
    if word in ("set", "out"):
        return (statement[2],)
    if word == "put":
        return (statement[2], statement[3])
    if word in ("if", "while"):
        return (statement[1],)
    return ()


def statement_blocks(statement):
    """The blocks that stand directly in a statement, in order."""
    word = statement[0]
    if word == "if":
        return (statement[2], statement[3])
    if word in ("while", "times"):
        return (statement[2],)
    return ()


def expressions_within(expressions):
    """These expressions, and all that stand within them."""
    found = []
    waiting = list(expressions)
    while waiting:
        expression = waiting.pop()
        found.append(expression)
        waiting.extend(expression_parts(expression))
    return found


def statements_within(blocks):
    """All statements of these blocks, and those within them."""
    found = []
    waiting = list(blocks)
    while waiting:
        block = waiting.pop()
        for statement in block:
            found.append(statement)
            waiting.extend(statement_blocks(statement))
    return found


def placed_blocks(block):
    """Pairs of a place and the block there: this one with (), and all within it, each behind those around it."""
    found = []
    waiting = [((), block)]
    while waiting:
        place, inner = waiting.pop()
        found.append((place, inner))
        for index, statement in enumerate(inner):
            for side, under in enumerate(statement_blocks(statement)):
                waiting.append(((*place, index, side), under))
    return found


def placed_statements(block):
    """Pairs of a place and the statement there, for all statements in the block of an owner."""
    found = []
    for place, inner in placed_blocks(block):
        found.extend([((*place, index), statement) for index, statement in enumerate(inner)])
    return found


def has_slots(block):
    """Whether whoever goes through a block takes a slot: only "skip" 0, and "times" of 0 or of none, take none."""
    waiting = [block]
    while waiting:
        inner = waiting.pop()
        for statement in inner:
            if statement[0] == "times":
                if statement[1] > 0:
                    waiting.append(statement[2])
            elif statement[0] != "skip" or statement[1] > 0:
                return True
    return False


def calls_within(expressions):
    """All calls in these expressions, those in args too."""
    return [part for part in expressions_within(expressions) if part[0] == "call"]
