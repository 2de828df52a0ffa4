"""Words of some widths, and what the ops tell of them."""
from lookalike.kinds import is_integer, is_number

WIDTHS = (1, 2, 4, 8, 16, 32)
OPS = ("add", "sub", "mul", "div", "rem", "and", "or", "xor", "shl", "shr", "eq", "lt")


def is_width(value):
    """Whether any value is a width."""
    return is_integer(value) and value in WIDTHS


def is_word(value, width):
    """Whether any value is a word of this width."""
    return is_number(value) and value < (1 << width)


def wrapped(number, width):
    """What the number leaves as a word of this width."""
    return number % (1 << width)


def word_op(op, width, one, other):
    """What the op tells of two words of this width."""
    action = ACTIONS[op]
    return action(width, one, other)


def op_width(op, width):
    """The width of what the op tells of words of this width."""
    return 1 if op in ("eq", "lt") else width


def add_words(width, one, other):
    return wrapped(one + other, width)


def subtract_words(width, one, other):
    return wrapped(one - other, width)


def multiply_words(width, one, other):
    return wrapped(one * other, width)


def divide_words(_, one, other):
    return 0 if other == 0 else one // other


def rest_of_words(_, one, other):
    return one if other == 0 else one % other


def both_words(_, one, other):
    return one & other


def either_word(_, one, other):
    return one | other


def unlike_words(_, one, other):
    return one ^ other


def shift_up(width, one, other):
    return wrapped(one << (other % width), width)


def shift_down(width, one, other):
    return one >> (other % width)


def are_equal(_, one, other):
    return int(one == other)


def is_less(_, one, other):
    return int(one < other)


ACTIONS = {
    "add": add_words,
    "sub": subtract_words,
    "mul": multiply_words,
    "div": divide_words,
    "rem": rest_of_words,
    "and": both_words,
    "or": either_word,
    "xor": unlike_words,
    "shl": shift_up,
    "shr": shift_down,
    "eq": are_equal,
    "lt": is_less,
}
