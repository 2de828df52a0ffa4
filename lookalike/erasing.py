"""Programs without the words that a level may not see."""
from lookalike.knots import owners_of
from lookalike.orders import lot_within
from lookalike.parts import statement_expressions
from lookalike.rebuilding import rebuilt_block, rebuilt_expression, with_expressions
from lookalike.scopes import program_scopes
from lookalike.toldlots import ToldLots


class Eraser:
    """What is erased for a level in the text of an owner of a told program."""

    def __init__(self, order, level, told, owner, scope):
        self.seen_levels = order[level]
        # For each name the word that stands in its place, and the names in whose place it does.
        self.words = {name: ("word", width, 0) for name, width in scope.places.items()}
        self.hidden = {}
        for name in scope.places:
            if not lot_within(order, told.lots[told.knot(owner, name)], level):
                self.hidden[name] = True


def erased(program, level):
    """The told program with words 0 for names and takes that the level may not see."""
    order, boxes, rows, functions, threads = program
    told = ToldLots(program)
    scopes = program_scopes(program)
    erasers = {}
    for owner, _, _ in owners_of(program):
        erasers[owner] = Eraser(order, level, told, owner, scopes[owner])
    new_boxes = []
    for name, lot, width, word in boxes:
        new_boxes.append((name, lot, width, word if lot_within(order, lot, level) else 0))
    new_functions = []
    for name, params, places, block, result in functions:
        eraser = erasers[name]
        new_functions.append((name, params, places, erased_block(eraser, block), erased_expression(eraser, result)))
    new_threads = [(name, places, erased_block(erasers[name], block)) for name, places, block in threads]
    return (order, tuple(new_boxes), rows, tuple(new_functions), tuple(new_threads))


def erased_expression(eraser, expression):
    """The expression with words for the names that are hidden."""

    def change(part):
        return eraser.words[part[1]] if part[0] == "name" and part[1] in eraser.hidden else part

    return rebuilt_expression(expression, change)


def erased_block(eraser, block):
    """The block with words for the names and takes that are hidden."""

    def change(statement):
        if statement[0] == "take" and statement[2] not in eraser.seen_levels:
            return ("set", statement[1], eraser.words[statement[1]])
        expressions = [erased_expression(eraser, part) for part in statement_expressions(statement)]
        return with_expressions(statement, expressions)

    return rebuilt_block(block, change)
