"""Instructions, and images: programs in code for a small machine."""
from lookalike.kinds import is_integer, is_number, is_tuple_of
from lookalike.orders import is_level, is_lot, is_order
from lookalike.programs import MOST_SIZE
from lookalike.words import OPS, is_width, is_word

# The instructions that tell one number, and those that tell none.
NUMBERED = ("local", "keep", "box", "fill", "cell", "cells", "jump", "else", "out")
BARE = ("rest", "end")


def is_instruction(value):
    """Whether any value is an instruction."""
    if not isinstance(value, tuple) or len(value) not in (1, 2, 3) or not isinstance(value[0], str):
        return False
    word = value[0]
    if len(value) == 1:
        return word in BARE
    if len(value) == 2:
        return word in NUMBERED and is_number(value[1])
    if word == "push":
        return is_width(value[1]) and is_word(value[2], value[1])
    if word == "op":
        return isinstance(value[1], str) and value[1] in OPS and is_width(value[2])
    return word == "take" and is_number(value[1]) and is_width(value[2])


def is_image_box(order, value):
    """Whether any value is a lot, a width, and a word of it."""
    if not is_tuple_of(value, 3) or not is_lot(order, value[0]):
        return False
    return is_width(value[1]) and is_word(value[2], value[1])


def is_image_row(order, value):
    """Whether any value is a lot, a width, and a size."""
    if not is_tuple_of(value, 3) or not is_lot(order, value[0]) or not is_width(value[1]):
        return False
    return is_integer(value[2]) and 1 <= value[2] <= MOST_SIZE


def are_widths(value):
    """Whether any value is a tuple of widths."""
    return isinstance(value, tuple) and all(is_width(width) for width in value)


class Reach:
    """How many boxes, rows, locals and levels there are for the instructions of a thread."""

    def __init__(self, order, boxes, rows, widths):
        self.order = order
        self.counts = {
            "local": len(widths), "keep": len(widths), "box": len(boxes), "fill": len(boxes),
            "cell": len(rows), "cells": len(rows),
        }

    def has(self, instruction):
        """Whether there is what an instruction speaks of, rows of the code left out."""
        if instruction[0] in ("out", "take"):
            return is_level(len(self.order), instruction[1])
        return instruction[0] not in self.counts or instruction[1] < self.counts[instruction[0]]


def is_whole(code):
    """Whether a sequence of instructions is not empty, leads to its rows alone, and never behind its last one."""
    if len(code) == 0 or code[-1][0] not in ("end", "jump"):
        return False
    return all(part[1] < len(code) for part in code if part[0] in ("jump", "else"))


def is_image_thread(order, boxes, rows, value):
    """Whether any value is a thread of an image with these parts."""
    if not is_tuple_of(value, 2) or not are_widths(value[0]) or not isinstance(value[1], tuple):
        return False
    reach = Reach(order, boxes, rows, value[0])
    return all(is_instruction(part) and reach.has(part) for part in value[1]) and is_whole(value[1])


def is_image(value):
    """Whether any value is an image."""
    if not is_tuple_of(value, 4) or not all(isinstance(part, tuple) for part in value) or not is_order(value[0]):
        return False
    order, boxes, rows, threads = value
    if not all(is_image_box(order, box) for box in boxes) or not all(is_image_row(order, row) for row in rows):
        return False
    return len(threads) > 0 and all(is_image_thread(order, boxes, rows, thread) for thread in threads)


def successors(code, row):
    """The ascending tuple of the rows that may come next behind a row of a code."""
    instruction = code[row]
    if instruction[0] == "end":
        return ()
    if instruction[0] == "jump":
        return (instruction[1],)
    if instruction[0] == "else" and instruction[1] != row + 1:
        return (min(instruction[1], row + 1), max(instruction[1], row + 1))
    return (row + 1,)
