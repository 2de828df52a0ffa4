"""Making blocks and expressions anew, with some of their parts changed."""
from lookalike.parts import expression_parts, expressions_within, placed_blocks, statement_blocks


def with_blocks(statement, blocks):
    """The statement with these blocks in the place of its own ones."""
    return (*statement[:len(statement) - len(blocks)], *blocks)


def with_expressions(statement, expressions):
    """The statement with these in the place of the expressions that stand directly in it."""
    if statement[0] in ("if", "while"):
        return (statement[0], expressions[0], *statement[2:])
    return (*statement[:len(statement) - len(expressions)], *expressions)


def with_parts(expression, parts):
    """The expression with these in the place of the expressions that stand directly in it."""
    if expression[0] == "call":
        return (*expression[:2], tuple(parts))
    return (*expression[:len(expression) - len(parts)], *parts)


def rebuilt_block(block, change):
    """The block with each statement changed, those within it first."""
    made = {}
    for place, inner in reversed(placed_blocks(block)):
        statements = []
        for index, statement in enumerate(inner):
            blocks = [made[place + (index, side)] for side in range(len(statement_blocks(statement)))]
            statements.append(change(with_blocks(statement, blocks)))
        made[place] = tuple(statements)
    return made[()]


def rebuilt_expression(expression, change):
    """The expression with itself and each one within it changed, those within it first."""
    made = []
    for part in reversed(expressions_within([expression])):
        # What stands in this one was made just ahead of it.
        split = len(made) - len(expression_parts(part))
        whole = change(with_parts(part, made[split:]))
        del made[split:]
        made.append(whole)
    return made[0]
