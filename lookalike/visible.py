"""Visible machines: all that a level can ever see of an image."""
from lookalike.bare import Explored, bare_deed
from lookalike.errors import Refused
from lookalike.kinds import are_numbers, is_tuple_of
from lookalike.orders import lot_within

# Machines tell apart so many words at each take.
WORDS = 16


def sight_of(image, ends, level, bare):
    """What the level sees of the deed at the tick from a bare state."""
    deed = bare_deed(image, bare)
    return deed if deed is not None and is_deed_seen(image[0], ends, level, deed) else None


def is_deed_seen(order, ends, level, deed):
    """Whether the level sees an out, an end or a take, the ends of threads having these lots."""
    if deed[0] == "end":
        return lot_within(order, ends[deed[1]], level)
    return deed[1] in order[level]


def is_take(sight):
    """Whether a sight is that of a take."""
    return sight is not None and sight[0] == "take"


def is_sight_like(value):
    """Whether any value is None, or a tuple of something and one or two numbers."""
    return value is None or (isinstance(value, tuple) and len(value) in (2, 3) and are_numbers(value[1:]))


def is_machine_row(value):
    """Whether any value is like a row of a machine, whatever its sight is, and whichever its blocks are."""
    if not is_tuple_of(value, 2) or not is_sight_like(value[0]) or not are_numbers(value[1]):
        return False
    return len(value[1]) == (WORDS if is_take(value[0]) else 1)


def is_machine_like(value):
    """Whether any value is like a visible machine of some image."""
    if not is_tuple_of(value, 2) or not are_numbers(value[0]) or not isinstance(value[1], tuple):
        return False
    blocks, rows = value
    if len(blocks) == 0 or blocks[0] != 0 or sorted(set(blocks)) != list(range(len(rows))):
        return False
    return all(is_machine_row(row) for row in rows)


def is_visible_machine(image, ends, level, value):
    """Whether any value is a visible machine of an image for a level."""
    if not is_machine_like(value):
        return False
    blocks, rows = value
    try:
        found = Explored(image, len(blocks))
    except Refused:
        return False
    if len(found.states) < len(blocks):
        return False
    for number, bare in enumerate(found.states):
        sight, nexts = rows[blocks[number]]
        if sight != sight_of(image, ends, level, bare):
            return False
        if not is_led_right(blocks, found.nexts[number], sight, nexts):
            return False
    return True


def is_led_right(blocks, behind, sight, nexts):
    """Whether the states behind one, whatever comes in, stand in the blocks that are told."""
    if not is_take(sight):
        return all(blocks[number] == nexts[0] for number in behind)
    return all(blocks[behind[word % len(behind)]] == nexts[word] for word in range(WORDS))


def machine_sights(value, ask, ticks):
    """The pairs of tick and sight that a machine tells, `ask` telling the word at a take by the pairs so far."""
    _, rows = value
    block = 0
    told = []
    for tick in range(ticks):
        sight, nexts = rows[block]
        if sight is not None:
            told.append((tick, sight))
        block = nexts[ask(told) % WORDS] if is_take(sight) else nexts[0]
    return tuple(told)


def machine_record(value, inputs, ticks):
    """The pairs of tick and sight that a machine tells, its takes telling the words of these streams."""
    left = [list(reversed(stream)) for stream in inputs]

    def ask(told):
        _, (_, level) = told[-1]
        return left[level].pop() if left[level] else 0

    return machine_sights(value, ask, ticks)
