"""What the names in a function or thread of a program stand for."""
from lookalike.words import op_width


class Scope:
    """What the names in the text of one function or thread stand for.

    `places` has the widths of its params and locals and of the boxes, `rows`
    those of the rows; `functions` has for each function that may be called the
    widths of its params, and that of its result.
    """

    def __init__(self, order, places, rows, functions):
        self.order = order
        self.places = places
        self.rows = rows
        self.functions = functions


def widths_of(places):
    """The widths of places, boxes or rows by their names."""
    return {place[0]: place[2] for place in places}


def owner_scope(order, boxes, rows, functions, places):
    """The scope of a function or thread with these params and locals."""
    known = {**widths_of(boxes), **widths_of(places)}
    return Scope(order, known, widths_of(rows), dict(functions))


def text_width(scope, expression):
    """The width of a right expression in this scope."""
    while expression[0] == "op" and expression[1] not in ("eq", "lt"):
        expression = expression[2]
    word = expression[0]
    if word == "op":
        return op_width(expression[1], 1)
    if word == "word":
        return expression[1]
    if word == "name":
        return scope.places[expression[1]]
    if word == "at":
        return scope.rows[expression[1]]
    return scope.functions[expression[1]][1]


def add_function(scope, functions, function):
    """Put the widths of a function with this scope to those of functions ahead of it."""
    name, params, _, _, result = function
    widths = tuple([place[2] for place in params])
    functions[name] = (widths, text_width(scope, result))


def program_scopes(program):
    """The scopes of all functions and threads of a right program, by their names."""
    order, boxes, rows, functions, threads = program
    scopes = {}
    known = {}
    for function in functions:
        places = function[1] + function[2]
        scopes[function[0]] = owner_scope(order, boxes, rows, known, places)
        add_function(scopes[function[0]], known, function)
    for name, places, _ in threads:
        scopes[name] = owner_scope(order, boxes, rows, known, places)
    return scopes
