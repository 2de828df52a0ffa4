"""Inputs of programs, and records of what they do."""
from lookalike.kinds import are_numbers, is_number, is_tuple_of
from lookalike.orders import is_level, lot_within


def is_input(order, value):
    """Whether any value is a tuple with a stream for each level of the order."""
    return is_tuple_of(value, len(order)) and all(are_numbers(stream) for stream in value)


def alike_inputs(order, level, one, other):
    """Whether two inputs have equal streams for all levels within this one."""
    return all(one[low] == other[low] for low in order[level])


def is_deed(order, value):
    """Whether any value is an out of a word at a level, or the end of a thread."""
    if not isinstance(value, tuple) or len(value) not in (2, 3):
        return False
    if len(value) == 2:
        return value[0] == "end" and is_number(value[1])
    return value[0] == "out" and is_level(len(order), value[1]) and is_number(value[2])


def is_record(order, value):
    """Whether any value is a tuple of pairs of a tick and a deed, no tick less than the one before."""
    if not isinstance(value, tuple):
        return False
    before = 0
    for pair in value:
        if not is_tuple_of(pair, 2) or not is_number(pair[0]) or not is_deed(order, pair[1]):
            return False
        if pair[0] < before:
            return False
        before = pair[0]
    return True


def is_seen(order, level, ends, deed):
    """Whether the level sees a deed, the ends of threads having these lots."""
    if deed[0] == "out":
        return deed[1] in order[level]
    return lot_within(order, ends[deed[1]], level)


def seen(order, level, ends, record):
    """The record of what the level sees of this one."""
    return tuple([(tick, deed) for tick, deed in record if is_seen(order, level, ends, deed)])


def cut_record(record, tick):
    """The record of what was done ahead of this tick."""
    return tuple([pair for pair in record if pair[0] < tick])
