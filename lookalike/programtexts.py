"""Writing programs."""

HEADS = ("within", "box", "row", "function", "thread")


def program_tokens(program):
    """The tokens of a right program with numbers of at most 1,000 digits."""
    order, boxes, rows, functions, threads = program
    tokens = ["levels", str(len(order))]
    for level, lot in enumerate(order):
        tokens.extend(["within", str(level), "{", *numerals(lot), "}"])
    for box in boxes:
        tokens.extend(["box", *place_tokens(box[:3]), "=", str(box[3])])
    for row in rows:
        tokens.extend(["row", *place_tokens(row[:3]), "*", str(row[3])])
    for function in functions:
        tokens.extend(function_tokens(function))
    for thread in threads:
        tokens.extend(thread_tokens(thread))
    return tuple(tokens)


def program_text(program):
    """A text with these tokens: the levels, each box, row, function and thread begin lines of their own."""
    lines = []
    line = []
    for token in program_tokens(program):
        if token in HEADS:
            lines.append(" ".join(line))
            line = []
        line.append(token)
    lines.append(" ".join(line))
    return "\n".join(lines)


def numerals(lot):
    """The numerals of the levels of a lot."""
    return [str(level) for level in lot]


def place_tokens(place):
    """The tokens of a place."""
    name, lot, width = place
    lot_tokens = ["?"] if lot is None else ["[", *numerals(lot), "]"]
    return [name, ":", str(width), *lot_tokens]


def local_tokens(places):
    """The tokens of the locals of a function or thread."""
    tokens = []
    for place in places:
        tokens.extend(["local", *place_tokens(place)])
    return tokens


def function_tokens(function):
    """The tokens of a function."""
    name, params, places, block, result = function
    tokens = ["function", name, "("]
    for index, place in enumerate(params):
        if index > 0:
            tokens.append(",")
        tokens.extend(place_tokens(place))
    tokens.extend([")", "{", *local_tokens(places), *written(block), "}", "->", *written([result])])
    return tokens


def thread_tokens(thread):
    """The tokens of a thread."""
    name, places, block = thread
    return ["thread", name, "{", *local_tokens(places), *written(block), "}"]


def written(parts):
    """The tokens of statements and expressions, one behind the other.

    What is still to be written waits in a list, as the parts may stand deep
    within one another: tokens are strings in it, all else is tuples.
    """
    tokens = []
    waiting = list(reversed(parts))
    while waiting:
        part = waiting.pop()
        if isinstance(part, str):
            tokens.append(part)
        else:
            write = WRITERS[part[0]]
            waiting.extend(list(reversed(write(part))))
    return tokens


def write_word(expression):
    return [str(expression[2]), ":", str(expression[1])]


def write_name(expression):
    return [expression[1]]


def write_at(expression):
    return [expression[1], "[", expression[2], "]"]


def write_op(expression):
    return ["(", expression[2], expression[1], expression[3], ")"]


def write_call(expression):
    tokens = [expression[1], "("]
    for index, arg in enumerate(expression[2]):
        if index > 0:
            tokens.append(",")
        tokens.append(arg)
    return [*tokens, ")"]


def write_set(statement):
    return [statement[1], "=", statement[2], ";"]


def write_put(statement):
    return [statement[1], "[", statement[2], "]", "=", statement[3], ";"]


def write_if(statement):
    _, condition, block, other = statement
    tokens = ["if", condition, "{", *block, "}"]
    return tokens if other == () else [*tokens, "else", "{", *other, "}"]


def write_while(statement):
    return ["while", statement[1], "{", *statement[2], "}"]


def write_times(statement):
    return ["times", str(statement[1]), "{", *statement[2], "}"]


def write_out(statement):
    return ["out", str(statement[1]), statement[2], ";"]


def write_take(statement):
    return ["take", statement[1], str(statement[2]), ";"]


def write_skip(statement):
    return ["skip", str(statement[1]), ";"]


WRITERS = {
    "word": write_word,
    "name": write_name,
    "at": write_at,
    "op": write_op,
    "call": write_call,
    "set": write_set,
    "put": write_put,
    "if": write_if,
    "while": write_while,
    "times": write_times,
    "out": write_out,
    "take": write_take,
    "skip": write_skip,
}
