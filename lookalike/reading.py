"""Reading programs."""
from lookalike.errors import InvalidText
from lookalike.orders import MOST_LEVELS
from lookalike.programs import MOST_SIZE, is_free_name
from lookalike.readers import Reader
from lookalike.readingparts import read_block, read_expression
from lookalike.scopes import Scope, add_function
from lookalike.tokens import numeral_value, tokens_of


def read_program(text):
    """The program with just the tokens of a text."""
    if not isinstance(text, str):
        raise InvalidText(0)
    return program_of(Reader(tokens_of(text), False))


def completed(text):
    """None, or some program whose tokens begin with those of a text."""
    try:
        return program_of(Reader(tokens_of(text), True))
    except InvalidText:
        return None


def program_of(reader):
    """The program that a reader reads."""
    order = read_order(reader)
    reader.shared = Scope(order, {}, {}, {})
    boxes = []
    while reader.goes_on_with("box"):
        boxes.append(read_box(reader))
    rows = []
    while reader.goes_on_with("row"):
        rows.append(read_row(reader))
    functions = []
    while reader.goes_on_with("function"):
        functions.append(read_function(reader))
    reader.take_sign("thread")
    threads = [read_thread(reader)]
    while reader.goes_on_with("thread"):
        threads.append(read_thread(reader))
    if not reader.is_behind():
        reader.refuse()
    return (order, tuple(boxes), tuple(rows), tuple(functions), tuple(threads))


def read_order(reader):
    """Read the levels and what is within each."""
    reader.take_sign("levels")
    levels = reader.take_number(1, MOST_LEVELS)
    order = []
    for level in range(levels):
        reader.take_sign("within")
        reader.take_number(level, level)
        reader.take_sign("{")
        order.append(read_below(reader, order, levels))
    return tuple(order)


def read_below(reader, order, levels):
    """Read what is within the next level, with the closing bracket; this order is told of the first levels."""
    told = []
    while True:
        missing = missing_levels(order, told)
        token = reader.look(str(missing[0]) if missing else "}")
        if token == "}" and not missing:
            reader.step()
            return tuple(told)
        number = numeral_value(token)
        if number is None or number >= levels or not may_be_next(order, told, number):
            reader.refuse()
        reader.step()
        told.append(number)


def missing_levels(order, told):
    """What must be within the next level beside these, this order being told of the first levels."""
    needed = [len(order)]
    for low in told:
        if low < len(order):
            needed.extend(order[low])
    return [level for level in sorted(set(needed)) if level not in told]


def may_be_next(order, told, number):
    """Whether there is an order in which this number stands behind the told ones within the next level.

    All levels behind the next one may have nothing within them but themselves.
    So it is enough that what the next level must have stands behind the number,
    that the next level is not within any of these itself, and that each level
    that it is within has them, too.
    """
    level = len(order)
    lows = [*told, number]
    missing = missing_levels(order, lows)
    if any(other >= number for other in told) or any(other < number for other in missing):
        return False
    if any(level in order[low] for low in lows if low < level):
        return False
    return all(has_within(below, lows + missing) for below in order if level in below)


def has_within(below, lows):
    """Whether all of these levels are among those that are within one."""
    return all(low in below for low in lows)


def new_name(known):
    """A name that is none of these."""
    number = 0
    while f"x{number}" in known:
        number += 1
    return f"x{number}"


def take_name(reader, known):
    """Take and tell a name that is none of these."""
    name = reader.look(new_name(known) if reader.is_behind() else "")
    if not is_free_name(name) or name in known:
        reader.refuse()
    reader.step()
    return name


def take_shared_name(reader):
    """Take and tell the name of a box, row, function or thread."""
    name = take_name(reader, reader.taken)
    reader.taken[name] = True
    return name


def read_place(reader, name):
    """Read what stands behind the name of a place."""
    reader.take_sign(":")
    width = reader.take_width(None, 0)
    return (name, read_lot(reader), width)


def read_lot(reader):
    """Read a lot, or `?`."""
    if reader.look("?") == "?":
        reader.step()
        return None
    reader.take_sign("[")
    lot = []
    least = 0
    while reader.look("]") != "]":
        lot.append(reader.take_number(least, len(reader.shared.order) - 1))
        least = lot[-1] + 1
    reader.step()
    return tuple(lot)


def read_box(reader):
    """Read a box behind its first token."""
    name, lot, width = read_place(reader, take_shared_name(reader))
    reader.take_sign("=")
    word = reader.take_number(0, (1 << width) - 1)
    reader.shared.places[name] = width
    return (name, lot, width, word)


def read_row(reader):
    """Read a row behind its first token."""
    name, lot, width = read_place(reader, take_shared_name(reader))
    reader.take_sign("*")
    size = reader.take_number(1, MOST_SIZE)
    reader.shared.rows[name] = width
    return (name, lot, width, size)


def begin_owner(reader):
    """Know no names in the function or thread that begins but those that all share."""
    shared = reader.shared
    reader.scope = Scope(shared.order, dict(shared.places), shared.rows, shared.functions)


def read_own_place(reader):
    """Read a param or local."""
    scope = reader.scope
    name = take_name(reader, {**scope.places, **scope.rows})
    place = read_place(reader, name)
    scope.places[name] = place[2]
    return place


def read_params(reader):
    """Read the params of a function, with their brackets."""
    params = []
    reader.take_sign("(")
    if reader.look(")") != ")":
        params.append(read_own_place(reader))
        while reader.goes_on_with(","):
            params.append(read_own_place(reader))
    reader.take_sign(")")
    return tuple(params)


def read_locals(reader):
    """Read the locals of a function or thread."""
    places = []
    while reader.goes_on_with("local"):
        places.append(read_own_place(reader))
    return tuple(places)


def read_function(reader):
    """Read a function behind its first token."""
    name = take_shared_name(reader)
    begin_owner(reader)
    params = read_params(reader)
    reader.take_sign("{")
    places = read_locals(reader)
    block = read_block(reader)
    reader.take_sign("->")
    function = (name, params, places, block, read_expression(reader))
    # From here on it may be called, but not in itself.
    add_function(reader.scope, reader.shared.functions, function)
    return function


def read_thread(reader):
    """Read a thread behind its first token."""
    name = take_shared_name(reader)
    begin_owner(reader)
    reader.take_sign("{")
    places = read_locals(reader)
    return (name, places, read_block(reader))
