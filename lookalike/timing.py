"""Which parts of programs may wait: they may come to a "while"."""
from lookalike.parts import calls_within, statement_blocks, statement_expressions, statements_within


def calls_of(block):
    """All calls in the statements of a block, and of those within them."""
    found = []
    for statement in statements_within([block]):
        found.extend(calls_within(statement_expressions(statement)))
    return found


def waits_within(blocks, waiting):
    """Whether there is a "while" in these blocks, or in what they call; of functions it is told which wait."""
    for block in blocks:
        if any(statement[0] == "while" for statement in statements_within([block])):
            return True
        if any(call[1] in waiting for call in calls_of(block)):
            return True
    return False


def waiting_functions(program):
    """The names of the functions that have a "while", or call one that has, as keys of a dict."""
    waiting = {}
    for name, _, _, block, result in program[3]:
        called = [call[1] for call in calls_within([result])]
        if waits_within([block], waiting) or any(callee in waiting for callee in called):
            waiting[name] = True
    return waiting


def is_timed(statement, waiting):
    """Whether no way through the sides of an "if" comes to a "while"; of functions it is told which wait."""
    return not waits_within(statement_blocks(statement), waiting)
