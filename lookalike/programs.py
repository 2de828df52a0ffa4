"""Programs, and which of them are right."""
from lookalike.kinds import is_integer, is_name, is_number, is_tuple_of
from lookalike.orders import is_level, is_lot, is_order
from lookalike.parts import expression_parts, statement_blocks
from lookalike.scopes import add_function, owner_scope, program_scopes, text_width
from lookalike.words import OPS, is_width, is_word

RESERVED = (
    "levels", "within", "box", "row", "function", "thread", "local",
    "if", "else", "while", "times", "out", "take", "skip",
)
MOST_SIZE = 64
MOST_TIMES = 64


def is_free_name(value):
    """Whether any value is a name that is no word of the language."""
    return is_name(value) and value not in RESERVED


def is_place(order, value):
    """Whether any value is a name, a lot or None, and a width."""
    if not is_tuple_of(value, 3):
        return False
    name, lot, width = value
    return is_free_name(name) and (lot is None or is_lot(order, lot)) and is_width(width)


def is_box(order, value):
    """Whether any value is a place with its first word."""
    return is_tuple_of(value, 4) and is_place(order, value[:3]) and is_word(value[3], value[2])


def is_row(order, value):
    """Whether any value is a place with a size."""
    if not is_tuple_of(value, 4) or not is_place(order, value[:3]):
        return False
    return is_integer(value[3]) and 1 <= value[3] <= MOST_SIZE


def are_places(order, value):
    """Whether any value is a tuple of places."""
    return isinstance(value, tuple) and all(is_place(order, place) for place in value)


def is_function_head(order, value):
    """Whether any value is like a function, whatever its block and result are."""
    if not is_tuple_of(value, 5) or not is_free_name(value[0]):
        return False
    return are_places(order, value[1]) and are_places(order, value[2])


def is_thread_head(order, value):
    """Whether any value is like a thread, whatever its block is."""
    return is_tuple_of(value, 3) and is_free_name(value[0]) and are_places(order, value[1])


def are_unlike(names):
    """Whether no name stands twice among these."""
    return len(set(names)) == len(names)


def has_right_heads(value):
    """Whether any value is like a program, whatever blocks and results are."""
    if not is_tuple_of(value, 5) or not is_order(value[0]):
        return False
    if not all(isinstance(part, tuple) for part in value):
        return False
    order, boxes, rows, functions, threads = value
    if not all(is_box(order, box) for box in boxes) or not all(is_row(order, row) for row in rows):
        return False
    if not all(is_function_head(order, function) for function in functions):
        return False
    return len(threads) > 0 and all(is_thread_head(order, thread) for thread in threads)


def has_unlike_names(program):
    """Whether in what has right heads no name stands for two things where it must not."""
    _, boxes, rows, functions, threads = program
    shared = [part[0] for part in boxes + rows]
    owners = [part[0] for part in functions + threads]
    if not are_unlike(shared + owners):
        return False
    own = [function[1] + function[2] for function in functions] + [thread[1] for thread in threads]
    return all([are_unlike(shared + [place[0] for place in places]) for places in own])


def is_program(value):
    """Whether any value is a right program."""
    if not has_right_heads(value) or not has_unlike_names(value):
        return False
    order, boxes, rows, functions, threads = value
    known = {}
    for function in functions:
        scope = owner_scope(order, boxes, rows, known, function[1] + function[2])
        if not is_block(scope, function[3]) or width_of_any(scope, function[4]) is None:
            return False
        add_function(scope, known, function)
    for _, places, block in threads:
        if not is_block(owner_scope(order, boxes, rows, known, places), block):
            return False
    return True


def is_block(scope, value):
    """Whether any value is a right block in this scope."""
    waiting = [value]
    while waiting:
        block = waiting.pop()
        if not isinstance(block, tuple):
            return False
        for statement in block:
            if not is_statement(scope, statement):
                return False
            waiting.extend(statement_blocks(statement))
    return True


def is_statement(scope, value):
    """Whether any value is a right statement in this scope, whatever its blocks are."""
    if not isinstance(value, tuple) or len(value) == 0:
        return False
    if not isinstance(value[0], str) or value[0] not in CHECKS or len(value) != SIZES[value[0]]:
        return False
    check = CHECKS[value[0]]
    return check(scope, value)


def is_set(scope, value):
    _, name, expression = value
    return is_known(name, scope.places) and width_of_any(scope, expression) == scope.places[name]


def is_put(scope, value):
    _, name, index, expression = value
    if not is_known(name, scope.rows) or width_of_any(scope, index) is None:
        return False
    return width_of_any(scope, expression) == scope.rows[name]


def is_choice(scope, value):
    return width_of_any(scope, value[1]) is not None


def is_times(_, value):
    return is_integer(value[1]) and 0 <= value[1] <= MOST_TIMES


def is_out(scope, value):
    return is_level(len(scope.order), value[1]) and width_of_any(scope, value[2]) is not None


def is_take(scope, value):
    return is_known(value[1], scope.places) and is_level(len(scope.order), value[2])


def is_skip(_, value):
    return is_number(value[1])


SIZES = {"set": 3, "put": 4, "if": 4, "while": 3, "times": 3, "out": 3, "take": 3, "skip": 2}
CHECKS = {
    "set": is_set,
    "put": is_put,
    "if": is_choice,
    "while": is_choice,
    "times": is_times,
    "out": is_out,
    "take": is_take,
    "skip": is_skip,
}


def is_known(value, names):
    """Whether any value is one of the names of a dict."""
    return isinstance(value, str) and value in names


def is_formed(scope, value):
    """Whether any value is like an expression in this scope, whatever stands within it."""
    if not isinstance(value, tuple) or len(value) not in (2, 3, 4):
        return False
    word = value[0]
    if len(value) == 2:
        return word == "name" and is_known(value[1], scope.places)
    if len(value) == 4:
        return word == "op" and isinstance(value[1], str) and value[1] in OPS
    if word == "word":
        return is_width(value[1]) and is_word(value[2], value[1])
    if word == "at":
        return is_known(value[1], scope.rows)
    if word != "call" or not is_known(value[1], scope.functions):
        return False
    return is_tuple_of(value[2], len(scope.functions[value[1]][0]))


def formed_parts(scope, value):
    """None, or the list of any value and all that stands within it, if all of it is like expressions."""
    found = []
    waiting = [value]
    while waiting:
        part = waiting.pop()
        if not is_formed(scope, part):
            return None
        found.append(part)
        waiting.extend(expression_parts(part))
    return found


def width_of_any(scope, value):
    """The width of any value that is a right expression in this scope, None if it is none."""
    parts = formed_parts(scope, value)
    if parts is None or not all(has_right_parts(scope, part) for part in parts):
        return None
    return text_width(scope, value)


def has_right_parts(scope, expression):
    """Whether what stands directly in an expression, formed throughout, has the widths it must have."""
    widths = [text_width(scope, part) for part in expression_parts(expression)]
    if expression[0] == "op":
        return widths[0] == widths[1]
    if expression[0] == "call":
        return tuple(widths) == scope.functions[expression[1]][0]
    return True


def expression_width(program, owner, expression):
    """The width of an expression that is right within the function or thread with this name."""
    return text_width(program_scopes(program)[owner], expression)
